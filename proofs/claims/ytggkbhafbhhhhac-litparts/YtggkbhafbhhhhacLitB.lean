/-
  WALKS: package lit: Holds, Not, checkIn, Told, Put.
-/
import Derived.Test.YtggkbhafbhhhhacLitA
import Derived.Test.YtggkbhafbhhhhacStoE
namespace Go.Proofs.Ytggkbhafbhhhhac
open Go.RowKit

theorem blk_cell {w : World} {b : Nat} {cs : Array Value} {t : TypeId} (h : w.heap[b]? = some (.cells cs t)) (i : Nat) (v : Value) (hv : cs[i]? = some v) : w.cell? ⟨b, i, none⟩ = some v := by
  rw [Lib.cell_of_heap h]; exact hv
theorem blk_frozen {w : World} {b : Nat} {cs : Array Value} {t : TypeId} (h : w.heap[b]? = some (.cells cs t)) (i : Nat) : w.frozen? ⟨b, i, none⟩ = false := by
  unfold World.frozen?
  simp only [h]
  simp
theorem blocks3 (w : World) (o1 o2 o3 : Obj) : (((w.alloc o1).alloc o2).alloc o3).heap[w.heap.size]? = some o1 ∧ (((w.alloc o1).alloc o2).alloc o3).heap[w.heap.size + 1]? = some o2 ∧ (((w.alloc o1).alloc o2).alloc o3).heap[w.heap.size + 2]? = some o3 := by
  refine ⟨?_, ?_, ?_⟩
  all_goals
    show (((w.heap.push _).push _).push _)[_]? = _
    simp only [Array.getElem?_push, Array.size_push]
    repeat first | rw [if_pos (by omega)] | rw [if_neg (by omega)]
  all_goals simp
theorem below2 (w : World) (o1 o2 : Obj) : Below w.heap.size w ((w.alloc o1).alloc o2) := (below_alloc _ _).alloc (by simp) _

set_option maxHeartbeats 800000 in
set_option maxRecDepth 100000 in
theorem lholds_any (m : Mod) (l : MLit) (x : Int) (vs cs : Value) (w : World) (hm : MArg w vs cs m) :
    Calls Try.prog 10 #[modV vs cs m, .agg #[.int .i64 l.var, .int .i64 l.op, .int .i64 l.n], .int .i64 x] w fun e w' => e = .returned (.tuple #[.bool (lholdsA m l x).1, .int .i64 (lholdsA m l x).2]) ∧ Below w.heap.size w w' := by
  have HMA : Hid (∀ w' : World, Below w.heap.size w w' → MArg w' vs cs m) := fun w' h => MArg.below h hm
  obtain ⟨⟨a1, c1, rfl, _, _⟩, ⟨a2, c2, rfl, _, _⟩⟩ := hm
  obtain ⟨R, hR⟩ : ∃ R, lholdsA m l x = R := ⟨_, rfl⟩
  rw [hR]
  obtain ⟨er, her⟩ : ∃ er, lcheckA m l = er := ⟨_, rfl⟩
  have HER : Hid (lcheckA m l = er) := her
  have HE : Hid (R = if er = 0 then (litV x l, 0) else (false, er)) := by rw [← hR, ← her]; rfl
  clear hR her
  unfold modV
  go_enter Try.func10, Try.ntmps10
  go_wp2_with fail
  refine (lcheck_any m l (.slice a1 m.vars.length c1) (.slice a2 m.cons.length c2) _ ?_).mono ?_
  · exact HMA.out _ (below2 _ _ _)
  rintro e w1 ⟨rfl, hb1⟩
  rw [HER.out]
  have d0 : w1.cell? ⟨w.heap.size + 1, 0, none⟩ = some (.int .i64 l.var) := (hb1.cell (by simp)).trans (World.cell?_alloc_at _ _ _ 0 (by simp))
  have d1 : w1.cell? ⟨w.heap.size + 1, 1, none⟩ = some (.int .i64 l.op) := (hb1.cell (by simp)).trans (World.cell?_alloc_at _ _ _ 1 (by simp))
  have d2 : w1.cell? ⟨w.heap.size + 1, 2, none⟩ = some (.int .i64 l.n) := (hb1.cell (by simp)).trans (World.cell?_alloc_at _ _ _ 2 (by simp))
  have HB1 : Hid (Below w.heap.size w w1) := (below2 _ _ _).trans (hb1.mono (by simp; omega))
  have hs1 : w.heap.size + 2 ≤ w1.heap.size := by simpa using hb1.size
  clear hb1
  by_cases he : er = 0
  · subst he
    have HN : Hid (R = (litV x l, 0)) := by rw [HE.out, if_pos rfl]; rfl
    go_wp2_with fail
    refine (lit_true l x _).mono ?_
    rintro e w2 ⟨rfl, hb2⟩
    have hb3 : Below w.heap.size w w2 := HB1.out.trans (hb2.mono HB1.out.size)
    clear hb2
    go_wp2
    go_ret2
    exact ⟨by rw [HN.out]; rfl, hb3⟩
  · have HN : Hid (R = (false, er)) := by rw [HE.out, if_neg he]; rfl
    have he2 : (er != 0) = true := by simpa using he
    clear he
    go_wp2
    go_ret2
    exact ⟨by rw [HN.out]; rfl, HB1.out⟩

set_option maxHeartbeats 1600000 in
set_option maxRecDepth 100000 in
theorem lnot_any (m : Mod) (l : MLit) (vs cs : Value) (w : World) (hm : MArg w vs cs m) :
    Calls Try.prog 9 #[modV vs cs m, .agg #[.int .i64 l.var, .int .i64 l.op, .int .i64 l.n]] w fun e w' => e = .returned (.tuple #[.agg #[.int .i64 (lnotA m l).1.var, .int .i64 (lnotA m l).1.op, .int .i64 (lnotA m l).1.n], .int .i64 (lnotA m l).2]) ∧ Below w.heap.size w w' := by
  have HMA : Hid (∀ w' : World, Below w.heap.size w w' → MArg w' vs cs m) := fun w' h => MArg.below h hm
  obtain ⟨⟨a1, c1, rfl, _, _⟩, ⟨a2, c2, rfl, _, _⟩⟩ := hm
  obtain ⟨R, hR⟩ : ∃ R, lnotA m l = R := ⟨_, rfl⟩
  rw [hR]
  obtain ⟨er, her⟩ : ∃ er, lcheckA m l = er := ⟨_, rfl⟩
  have HER : Hid (lcheckA m l = er) := her
  have HE : Hid (R = if er = 0 then (if litE m.vars (oppL l) = 0 then (oppL l, 0) else (noLit, litE m.vars (oppL l))) else (noLit, er)) := by rw [← hR, ← her]; rfl
  clear hR her
  unfold modV
  go_enter Try.func9, Try.ntmps9
  go_wp2_with fail
  refine (lcheck_any m l (.slice a1 m.vars.length c1) (.slice a2 m.cons.length c2) _ ?_).mono ?_
  · exact HMA.out _ (((below_alloc _ _).alloc (by simp) _).alloc (by simp; omega) _)
  rintro e w1 ⟨rfl, hb1⟩
  rw [HER.out]
  obtain ⟨HA, HB, HC⟩ := blocks3 w (.cells #[.slice a1 m.vars.length c1, .slice a2 m.cons.length c2, .int .i64 m.goal, .int .i64 m.var] 25) (.cells #[.int .i64 l.var, .int .i64 l.op, .int .i64 l.n] 29) (.cells #[.int .i64 0, .int .i64 0, .int .i64 0] 29)
  have HA1 : Hid (w1.heap[w.heap.size]? = _) := (hb1.block _ (by simp; omega)).trans HA
  have HB1' := (hb1.block _ (by simp)).trans HB
  have HC1 : Hid (w1.heap[w.heap.size + 2]? = _) := (hb1.block _ (by simp)).trans HC
  have g0 := blk_cell HA1.out 0 _ rfl
  have d0 := blk_cell HB1' 0 _ rfl
  have d1 := blk_cell HB1' 1 _ rfl
  have d2 := blk_cell HB1' 2 _ rfl
  have HB1 : Hid (Below w.heap.size w w1) := (((below_alloc _ _).alloc (by simp) _).alloc (by simp; omega) _).trans (hb1.mono (by simp; omega))
  have hs1 : w.heap.size + 3 ≤ w1.heap.size := by simpa using hb1.size
  clear hb1 HA HB HC HB1'
  by_cases he : er = 0
  · subst he
    obtain ⟨_, q2, q3⟩ := (litE_ok _ _).1 (lcheck_ok m l HER.out).2
    have HN0 : Hid (R = if litE m.vars (oppL l) = 0 then (oppL l, 0) else (noLit, litE m.vars (oppL l))) := by rw [HE.out, if_pos rfl]; rfl
    go_wp2_with fail
    refine (opp_any l _ q2 q3).mono ?_
    rintro e w2 ⟨rfl, hb2⟩
    have HC2 : Hid (w2.heap[w.heap.size + 2]? = _) := (hb2.block _ (by omega)).trans HC1.out
    have k0 := (hb2.cell (p := ⟨w.heap.size, 0, none⟩) (by simp only; omega)).trans g0
    have HB2 : Hid (Below w.heap.size w w2) := HB1.out.trans (hb2.mono HB1.out.size)
    have hs2 : w.heap.size + 3 ≤ w2.heap.size := by have := hb2.size; omega
    have hlt0 : w.heap.size < w2.heap.size := by omega
    obtain ⟨o, ho⟩ : ∃ o, oppL l = o := ⟨_, rfl⟩
    rw [ho] at HN0 ⊢
    clear hb2 g0 d0 d1 d2 q2 q3 ho HE HER HC1 HA1
    go_wp2_with fail
    refine (lit_check m.vars o _ _ (HMA.out _ (HB2.out.alloc HB2.out.size _)).1).mono ?_
    rintro e w3 ⟨rfl, hb3⟩
    have HC3 := (hb3.block (w.heap.size + 2) (by simp; omega)).trans ((Below.heap_alloc _ _ _ (by omega)).trans HC2.out)
    have r0 := blk_cell HC3 0 _ rfl
    have r1 := blk_cell HC3 1 _ rfl
    have r2 := blk_cell HC3 2 _ rfl
    have z0 := blk_frozen HC3 0
    have z1 := blk_frozen HC3 1
    have z2 := blk_frozen HC3 2
    have f0 : w3.cell? ⟨w2.heap.size, 0, none⟩ = some (.int .i64 o.var) := (hb3.cell (by simp)).trans (by simp)
    have f1 : w3.cell? ⟨w2.heap.size, 1, none⟩ = some (.int .i64 o.op) := (hb3.cell (by simp)).trans (by simp)
    have f2 : w3.cell? ⟨w2.heap.size, 2, none⟩ = some (.int .i64 o.n) := (hb3.cell (by simp)).trans (by simp)
    have HB3 : Hid (Below w.heap.size w w3) := (HB2.out.alloc HB2.out.size _).trans (hb3.mono (by simp; omega))
    have hs3 : w2.heap.size + 1 ≤ w3.heap.size := by simpa using hb3.size
    obtain ⟨f, hf⟩ : ∃ f, litE m.vars o = f := ⟨_, rfl⟩
    rw [hf] at HN0 ⊢
    clear hb3 hf HC3 HC2
    by_cases hf0 : f = 0
    · subst hf0
      have HN : Hid (R = (o, 0)) := by rw [HN0.out, if_pos rfl]; rfl
      go_wp2
      refine bodyPost_ret (by simp [results, Try.results9, go_sem, *]; try rfl) rfl ⟨by rw [HN.out] <;> rfl, ?_⟩
      exact ((HB3.out.setCell (by simp only; omega) _).setCell (by simp only; omega) _).setCell (by simp only; omega) _
    · have HN : Hid (R = (noLit, f)) := by rw [HN0.out, if_neg hf0]; rfl
      have he2 : (f != 0) = true := by simpa using hf0
      clear hf0
      go_wp2
      refine bodyPost_ret (by simp [results, Try.results9, go_sem, *]; try rfl) rfl ⟨by rw [HN.out] <;> rfl, ?_⟩
      exact ((HB3.out.setCell (by simp only; omega) _).setCell (by simp only; omega) _).setCell (by simp only; omega) _
  · have HN : Hid (R = (noLit, er)) := by rw [HE.out, if_neg he]; rfl
    have he2 : (er != 0) = true := by simpa using he
    have r0 := blk_cell HC1.out 0 _ rfl
    have r1 := blk_cell HC1.out 1 _ rfl
    have r2 := blk_cell HC1.out 2 _ rfl
    have z0 := blk_frozen HC1.out 0
    have z1 := blk_frozen HC1.out 1
    have z2 := blk_frozen HC1.out 2
    clear he
    go_wp2
    refine bodyPost_ret (by simp [results, Try.results9, go_sem, *]; try rfl) rfl ⟨by rw [HN.out] <;> rfl, ?_⟩
    exact ((HB1.out.setCell (by simp only; omega) _).setCell (by simp only; omega) _).setCell (by simp only; omega) _

set_option maxHeartbeats 800000 in
set_option maxRecDepth 100000 in
theorem lin_any (m : Mod) (s : Sto) (l : MLit) (vs cs v : Value) (w : World) (hm : MArg w vs cs m) (hv : RArg w v s) :
    Calls Try.prog 40 #[modV vs cs m, v, .agg #[.int .i64 l.var, .int .i64 l.op, .int .i64 l.n]] w fun e w' => e = .returned (.int .i64 (linE m s l)) ∧ Below w.heap.size w w' := by
  have HMA : Hid (∀ w' : World, Below w.heap.size w w' → MArg w' vs cs m) := fun w' h => MArg.below h hm
  have HVA : Hid (∀ w' : World, Below w.heap.size w w' → RArg w' v s) := fun w' h => RArg.below h hv
  obtain ⟨⟨a1, c1, rfl, _, _⟩, ⟨a2, c2, rfl, _, _⟩⟩ := hm
  obtain ⟨a3, c3, rfl, _, _⟩ := hv
  obtain ⟨R, hR⟩ : ∃ R, linE m s l = R := ⟨_, rfl⟩
  rw [hR]
  obtain ⟨er, her⟩ : ∃ er, checkL m [s] = er := ⟨_, rfl⟩
  have HER : Hid (checkL m [s] = er) := her
  have HE : Hid (R = if er = 0 then litE m.vars l else er) := by rw [← hR, ← her]; rfl
  clear hR her
  unfold modV
  go_enter Try.func40, Try.ntmps40
  go_wp2_with fail
  refine (scheck_any m s (.slice a1 m.vars.length c1) (.slice a2 m.cons.length c2) _ _ ?_ ?_).mono ?_
  · exact HMA.out _ (below2 _ _ _)
  · exact HVA.out _ (below2 _ _ _)
  rintro e w1 ⟨rfl, hb1⟩
  rw [HER.out]
  have g0 : w1.cell? ⟨w.heap.size, 0, none⟩ = some (.slice a1 m.vars.length c1) := (hb1.cell (by simp; omega)).trans (by simp)
  have d0 : w1.cell? ⟨w.heap.size + 1, 0, none⟩ = some (.int .i64 l.var) := (hb1.cell (by simp)).trans (World.cell?_alloc_at _ _ _ 0 (by simp))
  have d1 : w1.cell? ⟨w.heap.size + 1, 1, none⟩ = some (.int .i64 l.op) := (hb1.cell (by simp)).trans (World.cell?_alloc_at _ _ _ 1 (by simp))
  have d2 : w1.cell? ⟨w.heap.size + 1, 2, none⟩ = some (.int .i64 l.n) := (hb1.cell (by simp)).trans (World.cell?_alloc_at _ _ _ 2 (by simp))
  have HB1 : Hid (Below w.heap.size w w1) := (below2 _ _ _).trans (hb1.mono (by simp; omega))
  have hs1 : w.heap.size + 2 ≤ w1.heap.size := by simpa using hb1.size
  clear hb1
  by_cases he : er = 0
  · subst he
    have HN : Hid (R = litE m.vars l) := by rw [HE.out, if_pos rfl]; rfl
    go_wp2_with fail
    refine (lit_check m.vars l _ _ (HMA.out _ HB1.out).1).mono ?_
    rintro e w2 ⟨rfl, hb2⟩
    have hb3 : Below w.heap.size w w2 := HB1.out.trans (hb2.mono HB1.out.size)
    clear hb2
    go_wp2
    go_ret
    exact ⟨ret_int HN.out.symm, hb3⟩
  · have HN : Hid (R = er) := by rw [HE.out, if_neg he]; rfl
    have he2 : (er != 0) = true := by simpa using he
    clear he
    go_wp2
    go_ret
    exact ⟨ret_int HN.out.symm, HB1.out⟩
end Go.Proofs.Ytggkbhafbhhhhac
