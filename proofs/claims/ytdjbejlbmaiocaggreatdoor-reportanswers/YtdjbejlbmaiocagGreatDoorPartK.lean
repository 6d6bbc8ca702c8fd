/-
  PART 11 of what the proof leans on (SeaA, BstA, BstB, BstP, EnoG, BstC, BstD, TwoPlain, TwoPts, BstQ, RefI, RefL, BstE).
-/
import Derived.Test.YtdjbejlbmaiocagGreatDoorPartJ
import Derived.KernelRfl
import Derived.Deep.QuietTactic
import Derived.BigQuiet
import Derived.Deep.RegionHeld3
/-
  PLAIN: what is solved. WALK: package search: Solve.
-/
namespace Go.Proofs.YtdjbejlbmaiocagGreatDoor
open Go.RowKit Go.Maps

structure Ans where
  verdict : Int
  values : List Int
  proof : List MStep
def noAns : Ans := ⟨0, [], []⟩
def startSk (fuel : Int) : Sk := ⟨[], fuel.toNat, [], []⟩
def solveR (m : Mod) (fuel : Int) : Int × List Int × Sk := nextP m.vars (ptsM m) (startSk fuel)
def solveA (m : Mod) (fuel : Int) : Ans × Int :=
  if checkM m = 0 then
    (if fuel < 0 ∨ 300 < fuel then (noAns, 3)
     else if (solveR m fuel).1 = 2 then (⟨2, [], (solveR m fuel).2.2.proof⟩, 0) else (⟨(solveR m fuel).1, (solveR m fuel).2.1, []⟩, 0))
  else (noAns, checkM m)
/-- An answer in memory, all of it made anew. -/
structure AnsQ (base : Nat) (w : World) (vv pp : Value) (a : Ans) : Prop where
  val : w.ownsRow base 3 1 vv a.values.length (a.values.map (Value.int .i64))
  prf : ∃ L : List SV, StOwn base w pp L ∧ L.map (·.1) = a.proof
theorem ansq_no (base : Nat) (w : World) (v : Int) : AnsQ base w (.slice none 0 0) (.slice none 0 0) ⟨v, [], []⟩ := ⟨World.ownsRow_nil _ _ _ _, [], ⟨World.ownsRow_nil _ _ _ _, fun x hx => by cases hx⟩, rfl⟩
theorem AnsQ.below {base : Nat} {w w' : World} {vv pp : Value} {a : Ans} (h : AnsQ base w vv pp a) (hb : Below w.heap.size w w') : AnsQ base w' vv pp a := by
  obtain ⟨L, h1, h2⟩ := h.prf
  exact ⟨own_below h.val hb, L, h1.below hb, h2⟩
theorem AnsQ.set {base : Nat} {w : World} {vv pp : Value} {a : Ans} {C : Nat} {cs : Array Value} (h : AnsQ base w vv pp a) (hC : w.heap[C]? = some (.cells cs 29)) (i : Nat) (u : Value) : AnsQ base (w.setCell ⟨C, i, none⟩ u) vv pp a := by
  obtain ⟨L, h1, h2⟩ := h.prf
  exact ⟨own_set h.val hC (by decide) i u, L, h1.set hC (by decide) (by decide) i u, h2⟩
theorem AnsQ.set3 {base : Nat} {w : World} {vv pp : Value} {a : Ans} {C : Nat} {x y z : Value} (h : AnsQ base w vv pp a) (hC : w.heap[C]? = some (.cells #[x, y, z] 29)) (u0 u1 u2 : Value) : AnsQ base (((w.setCell ⟨C, 0, none⟩ u0).setCell ⟨C, 1, none⟩ u1).setCell ⟨C, 2, none⟩ u2) vv pp a := by
  have h1 := h.set hC 0 u0
  have e1 : (w.setCell ⟨C, 0, none⟩ u0).heap[C]? = some (.cells #[u0, y, z] 29) := by rw [heap_setCell_same w C 0 _ _ u0 hC]; rfl
  have h2 := h1.set e1 1 u1
  have e2 : ((w.setCell ⟨C, 0, none⟩ u0).setCell ⟨C, 1, none⟩ u1).heap[C]? = some (.cells #[u0, u1, z] 29) := by rw [heap_setCell_same _ C 1 _ _ u1 e1]; rfl
  exact h2.set e2 2 u2
/-- What the two things that a call begins with leave. -/
theorem two_blocks (w : World) (a b : Obj) : ((w.alloc a).alloc b).heap[w.heap.size]? = some a ∧ ((w.alloc a).alloc b).heap[w.heap.size + 1]? = some b := by
  refine ⟨(Below.heap_alloc _ _ _ (by simp)).trans (heap_alloc_new w a), ?_⟩
  have h := heap_alloc_new (w.alloc a) b
  rw [World.size_alloc] at h
  exact h
theorem start_ok (vs : List MVar) (fuel : Int) (h : fuel ≤ 300) : SkO vs (startSk fuel) := ⟨by simp [startSk], by simp [startSk]; omega, path_nil vs⟩

set_option maxHeartbeats 3200000 in
set_option maxRecDepth 100000 in
theorem solve_any (m : Mod) (fuel : Int) (vs cs : Value) (w : World) (hma : MArg w vs cs m) (hT : TabT w) :
    Calls Tryz.prog 32 #[modV vs cs m, .int .i64 fuel] w fun e w' => ∃ vv pp, e = .returned (.tuple #[.agg #[.int .i64 (solveA m fuel).1.verdict, vv, pp], .int .i64 (solveA m fuel).2]) ∧ AnsQ w.heap.size w' vv pp (solveA m fuel).1 ∧ Below w.heap.size w w' := by
  have HMA : Hid (∀ w', Below w.heap.size w w' → MArg w' vs cs m) := fun w' h => MArg.below h hma
  have HT : Hid (∀ w', Below w.heap.size w w' → TabT w') := fun w' h => hT.below h
  obtain ⟨⟨a1, c1, rfl, _, _⟩, ⟨a2, c2, rfl, _, _⟩⟩ := hma
  obtain ⟨R, hR⟩ : ∃ R, solveA m fuel = R := ⟨_, rfl⟩
  rw [hR]
  obtain ⟨er, her⟩ : ∃ er, checkM m = er := ⟨_, rfl⟩
  have HER : Hid (checkM m = er) := her
  unfold solveA at hR
  rw [her] at hR
  have HR := (show Hid _ from hR)
  clear hR her hT
  unfold modV
  go_enter Tryz.func32, Tryz.ntmps32
  go_wp2_with fail
  obtain ⟨HA, HB⟩ := two_blocks w (.cells #[.slice a1 m.vars.length c1, .slice a2 m.cons.length c2, .int .i64 m.goal, .int .i64 m.var] 25) (.cells #[.int .i64 0, .slice none 0 0, .slice none 0 0] 29)
  have hbY : Below w.heap.size w ((w.alloc (.cells #[.slice a1 m.vars.length c1, .slice a2 m.cons.length c2, .int .i64 m.goal, .int .i64 m.var] 25)).alloc (.cells #[.int .i64 0, .slice none 0 0, .slice none 0 0] 29)) := (below_alloc _ _).alloc (by simp) _
  refine (check_model m (.slice a1 m.vars.length c1) (.slice a2 m.cons.length c2) _ (HMA.out _ hbY)).mono ?_
  rintro e w1 ⟨rfl, hb1⟩
  rw [HER.out]
  have HA1 : Hid (w1.heap[w.heap.size]? = some (.cells #[.slice a1 m.vars.length c1, .slice a2 m.cons.length c2, .int .i64 m.goal, .int .i64 m.var] 25)) := (hb1.block _ (by simp; omega)).trans HA
  have HB1 : Hid (w1.heap[w.heap.size + 1]? = some (.cells #[.int .i64 0, .slice none 0 0, .slice none 0 0] 29)) := (hb1.block _ (by simp)).trans HB
  have HBL : Hid (Below w.heap.size w w1) := hbY.trans (hb1.mono (by simp; omega))
  have hs1 : w.heap.size + 2 ≤ w1.heap.size := by simpa using hb1.size
  clear hb1 HA HB hbY
  have g0 := blk9 HA1.out 0 _ rfl
  have g1 := blk9 HA1.out 1 _ rfl
  have g2 := blk9 HA1.out 2 _ rfl
  have g3 := blk9 HA1.out 3 _ rfl
  have r0 := blk9 HB1.out 0 _ rfl
  have r1 := blk9 HB1.out 1 _ rfl
  have r2 := blk9 HB1.out 2 _ rfl
  have z0 := frz9 HB1.out 0
  have z1 := frz9 HB1.out 1
  have z2 := frz9 HB1.out 2
  have lq : w.heap.size < w1.heap.size := by omega
  have lr : w.heap.size + 1 < w1.heap.size := by omega
  by_cases he : er = 0
  · subst he
    have hR := HR.out
    rw [if_pos rfl] at hR
    by_cases hf : fuel < 0 ∨ 300 < fuel
    · rw [if_pos hf] at hR
      have HN : Hid ((noAns, (3 : Int)) = R) := hR
      have HQ : Hid (AnsQ w.heap.size (((w1.setCell ⟨w.heap.size + 1, 0, none⟩ (.int .i64 0)).setCell ⟨w.heap.size + 1, 1, none⟩ (.slice none 0 0)).setCell ⟨w.heap.size + 1, 2, none⟩ (.slice none 0 0)) (.slice none 0 0) (.slice none 0 0) noAns) := ansq_no _ _ _
      have HBE : Hid (Below w.heap.size w (((w1.setCell ⟨w.heap.size + 1, 0, none⟩ (.int .i64 0)).setCell ⟨w.heap.size + 1, 1, none⟩ (.slice none 0 0)).setCell ⟨w.heap.size + 1, 2, none⟩ (.slice none 0 0))) := ((HBL.out.setCell (by simp only; omega) _).setCell (by simp only; omega) _).setCell (by simp only; omega) _
      clear hR HR
      by_cases hf0 : fuel < 0
      · clear hf
        go_wp2
        refine bodyPost_ret (by simp [results, Tryz.results32, go_sem, *]; try rfl) rfl ?_
        rw [← HN.out]
        exact ⟨_, _, rfl, HQ.out, HBE.out⟩
      · have hf1 : 300 < fuel := by rcases hf with h | h; exact absurd h hf0; exact h
        clear hf
        go_wp2
        refine bodyPost_ret (by simp [results, Tryz.results32, go_sem, *]; try rfl) rfl ?_
        rw [← HN.out]
        exact ⟨_, _, rfl, HQ.out, HBE.out⟩
    · rw [if_neg hf] at hR
      have hf0 : ¬ fuel < 0 := fun h => hf (Or.inl h)
      have hf1 : ¬ 300 < fuel := fun h => hf (Or.inr h)
      obtain ⟨fn, rfl⟩ : ∃ fn : Nat, fuel = (fn : Int) := ⟨fuel.toNat, by omega⟩
      have HR2 := (show Hid _ from hR)
      clear hR HR hf
      go_wp2_with fail
      refine (new_any m HER.out fn (.slice a1 m.vars.length c1) (.slice a2 m.cons.length c2) w1 (HMA.out _ HBL.out) (HT.out _ HBL.out)).mono ?_
      rintro e W ⟨s, rfl, r, mb, pv, hB, hD, hbW, hr, hs, hmb⟩
      have HSB : Hid (SkB W s r mb (.slice a1 m.vars.length c1) pv m.vars (ptsM m)) := hB
      have HSD := (show Hid _ from hD)
      have HBW : Hid (Below w1.heap.size w1 W) := hbW
      clear hB hD hbW
      go_wp2_with fail
      refine (snext_any m.vars (vars_all m HER.out) (vars_one m HER.out) (ptsM m) W s r mb _ pv _ _ _ HSB.out [] ⟨[], fn, [], []⟩ (start_ok m.vars (fn : Int) (by omega)) W HSD.out).mono ?_
      rintro e w2 ⟨x, rfl, hox, htf, cv', prv', pav', L', hd2⟩
      obtain ⟨X, hX⟩ : ∃ X, nextP m.vars (ptsM m) ⟨[], fn, [], []⟩ = X := ⟨_, rfl⟩
      rw [hX] at hox hd2 ⊢
      have HXE : Hid (solveR m (fn : Int) = X) := hX
      rw [HXE.out] at HR2
      have HO2 : Hid (w2.ownsRow W.heap.size 3 1 x X.2.1.length (X.2.1.map (Value.int .i64))) := hox
      have HD2 := (show Hid _ from hd2)
      have HB2 : Hid (w2.heap[w.heap.size + 1]? = some (.cells #[.int .i64 0, .slice none 0 0, .slice none 0 0] 29)) := by
        have h1 := (HBW.out.block _ lr).trans HB1.out
        exact (htf.block _ _ _ _ h1 (by unfold TNo; decide)).trans h1
      have HBL2 : Hid (Below w.heap.size w w2) := by
        have hfr := hd2.fr
        have h1 := HBL.out.trans (HBW.out.mono HBL.out.size)
        refine ⟨hfr.os.trans h1.os, hfr.tape.trans h1.tape, hfr.output.trans h1.output, Nat.le_trans h1.size hfr.size, fun k hk => (hfr.block k (Nat.lt_of_lt_of_le hk h1.size) (by unfold XS; have := HBL.out.size; omega)).trans (h1.block k hk)⟩
      have HWS : Hid (w.heap.size ≤ W.heap.size) := Nat.le_trans HBL.out.size HBW.out.size
      obtain ⟨s0, s1, s2, s3, s4, s5, s6⟩ := hd2.cells
      obtain ⟨apr, cpr, rfl⟩ := own_form hd2.prf.1
      obtain ⟨ax, cx, rfl⟩ := own_form hox
      have hsq : w.heap.size + 1 < w2.heap.size := (Array.getElem?_eq_some_iff.1 HB2.out).1
      clear hox htf hd2 hX r0 r1 r2 z0 z1 z2 g0 g1 g2 g3 hf0 hf1
      have r0 := blk9 HB2.out 0 _ rfl
      have r1 := blk9 HB2.out 1 _ rfl
      have r2 := blk9 HB2.out 2 _ rfl
      have z0 := frz9 HB2.out 0
      have z1 := frz9 HB2.out 1
      have z2 := frz9 HB2.out 2
      obtain ⟨x1, x2, x3⟩ := X
      simp only at HO2 HD2 s3 HR2
      by_cases hv : x1 = 2
      · have hR := HR2.out
        rw [if_pos hv] at hR
        subst hv
        have HN : Hid ((⟨2, [], x3.proof⟩, 0) = R) := hR
        have HQ : Hid (AnsQ w.heap.size (((w2.setCell ⟨w.heap.size + 1, 0, none⟩ (.int .i64 2)).setCell ⟨w.heap.size + 1, 1, none⟩ (.slice none 0 0)).setCell ⟨w.heap.size + 1, 2, none⟩ (.slice apr L'.length cpr)) (.slice none 0 0) (.slice apr L'.length cpr) ⟨2, [], x3.proof⟩) :=
          AnsQ.set3 (w := w2) ⟨World.ownsRow_nil _ _ _ _, L', HD2.out.prf.mono HWS.out, HD2.out.prfE⟩ HB2.out _ _ _
        have HBE : Hid (Below w.heap.size w (((w2.setCell ⟨w.heap.size + 1, 0, none⟩ (.int .i64 2)).setCell ⟨w.heap.size + 1, 1, none⟩ (.slice none 0 0)).setCell ⟨w.heap.size + 1, 2, none⟩ (.slice apr L'.length cpr))) := ((HBL2.out.setCell (by simp only; omega) _).setCell (by simp only; omega) _).setCell (by simp only; omega) _
        clear hR HR2 HO2
        go_wp2
        refine bodyPost_ret (by simp [results, Tryz.results32, go_sem, *]; try rfl) rfl ?_
        rw [← HN.out]
        exact ⟨_, _, rfl, HQ.out, HBE.out⟩
      · have hR := HR2.out
        rw [if_neg hv] at hR
        have hv' : (x1 == 2) = false := by simpa using hv
        have HN : Hid ((⟨x1, x2, []⟩, 0) = R) := hR
        have HQ : Hid (AnsQ w.heap.size (((w2.setCell ⟨w.heap.size + 1, 0, none⟩ (.int .i64 x1)).setCell ⟨w.heap.size + 1, 1, none⟩ (.slice ax x2.length cx)).setCell ⟨w.heap.size + 1, 2, none⟩ (.slice none 0 0)) (.slice ax x2.length cx) (.slice none 0 0) ⟨x1, x2, []⟩) :=
          AnsQ.set3 (w := w2) ⟨World.ownsRow.mono HO2.out HWS.out, [], ⟨World.ownsRow_nil _ _ _ _, fun x hx => by cases hx⟩, rfl⟩ HB2.out _ _ _
        have HBE : Hid (Below w.heap.size w (((w2.setCell ⟨w.heap.size + 1, 0, none⟩ (.int .i64 x1)).setCell ⟨w.heap.size + 1, 1, none⟩ (.slice ax x2.length cx)).setCell ⟨w.heap.size + 1, 2, none⟩ (.slice none 0 0))) := ((HBL2.out.setCell (by simp only; omega) _).setCell (by simp only; omega) _).setCell (by simp only; omega) _
        clear hR HR2 HO2
        go_wp2
        refine bodyPost_ret (by simp [results, Tryz.results32, go_sem, *]; try rfl) rfl ?_
        rw [← HN.out]
        exact ⟨_, _, rfl, HQ.out, HBE.out⟩
  · have hR := HR.out
    rw [if_neg he] at hR
    have HN : Hid ((noAns, er) = R) := hR
    have he' : (er != 0) = true := by simpa using he
    have HQ : Hid (AnsQ w.heap.size (((w1.setCell ⟨w.heap.size + 1, 0, none⟩ (.int .i64 0)).setCell ⟨w.heap.size + 1, 1, none⟩ (.slice none 0 0)).setCell ⟨w.heap.size + 1, 2, none⟩ (.slice none 0 0)) (.slice none 0 0) (.slice none 0 0) noAns) := ansq_no _ _ _
    have HBE : Hid (Below w.heap.size w (((w1.setCell ⟨w.heap.size + 1, 0, none⟩ (.int .i64 0)).setCell ⟨w.heap.size + 1, 1, none⟩ (.slice none 0 0)).setCell ⟨w.heap.size + 1, 2, none⟩ (.slice none 0 0))) := ((HBL.out.setCell (by simp only; omega) _).setCell (by simp only; omega) _).setCell (by simp only; omega) _
    clear hR HR
    go_wp2
    refine bodyPost_ret (by simp [results, Tryz.results32, go_sem, *]; try rfl) rfl ?_
    rw [← HN.out]
    exact ⟨_, _, rfl, HQ.out, HBE.out⟩
end Go.Proofs.YtdjbejlbmaiocagGreatDoor
/-
  PLAIN: what would be better. WALKS: package best: better, Better.
-/
namespace Go.Proofs.YtdjbejlbmaiocagGreatDoor
open Go.RowKit Go.Maps

def betterC (m : Mod) (vals : List Int) : Cla :=
  if m.goal = 1 then [⟨m.var, 1, valAt vals m.var - 1⟩] else if m.goal = 2 then [⟨m.var, 2, valAt vals m.var + 1⟩] else []
def betterA (m : Mod) (vals : List Int) : Cla × Int :=
  if checkM m = 0 then
    (if vals.length = m.vars.length then
      (if m.goal ≠ 0 ∧ (valAt vals m.var < (varAt m.vars m.var.toNat).lo ∨ (varAt m.vars m.var.toNat).hi < valAt vals m.var) then ([], 3) else (betterC m vals, 0))
     else ([], 1))
  else ([], checkM m)
theorem lown_one (w : World) (l : MLit) : LOwn w.heap.size (w.alloc (.cells #[.int .i64 l.var, .int .i64 l.op, .int .i64 l.n] 88)) (.slice (some ⟨w.heap.size, 0, none⟩) 1 1) [l] :=
  ⟨rfl, .inr ⟨w.heap.size, 1, _, rfl, Nat.le_refl _, heap_alloc_new _ _, Nat.le_refl _, by decide, rfl, rfl⟩⟩

set_option maxHeartbeats 1600000 in
set_option maxRecDepth 100000 in
theorem better_any (m : Mod) (vals : List Int) (hk : 0 ≤ m.var ∧ m.var < (vals.length : Int)) (hb : -1000 ≤ valAt vals m.var ∧ valAt vals m.var ≤ 1000) (vs cs v : Value) (w : World) (hv : IArg w v vals) :
    Calls Tryz.prog 89 #[modV vs cs m, v] w fun e w' => ∃ x, e = .returned x ∧ LOwn w.heap.size w' x (betterC m vals) ∧ Below w.heap.size w w' := by
  obtain ⟨mv, mc, mg, mk⟩ := m
  unfold betterC modV
  simp only at hk hb ⊢
  obtain ⟨k, rfl⟩ : ∃ k : Nat, mk = (k : Int) := ⟨mk.toNat, by omega⟩
  have hkl : k < vals.length := by omega
  obtain ⟨z, hz⟩ : ∃ z, vals[k]? = some z := ⟨vals[k], by rw [List.getElem?_eq_getElem hkl]⟩
  have hvz : valAt vals (k : Int) = z := by unfold valAt; rw [Int.toNat_natCast, List.getD_eq_getElem?_getD, hz]; rfl
  rw [hvz] at hb ⊢
  obtain ⟨a, c, rfl, hm, hr⟩ := hv
  obtain ⟨b, off, ha, hbl, hc⟩ := hr k z hz
  subst ha
  have hkl2 : (k : Int) < (vals.length : Int) := by omega
  clear hr hz hvz hk
  by_cases h1 : mg = 1
  · subst h1
    rw [if_pos rfl]
    have hwr : IntKind.i64.wrap (z - 1) = z - 1 := by rw [IntKind.wrap_i64]; omega
    go_enter Tryz.func89, Tryz.ntmps89
    go_wp2_with fail
    have hbY : Below w.heap.size w (w.alloc (.cells #[vs, cs, .int .i64 1, .int .i64 (k : Int)] 25)) := below_alloc _ _
    obtain ⟨Y, hY⟩ : ∃ Y, w.alloc (.cells #[vs, cs, .int .i64 1, .int .i64 (k : Int)] 25) = Y := ⟨_, rfl⟩
    have d3 : Y.cell? ⟨w.heap.size, 3, none⟩ = some (.int .i64 (k : Int)) := by rw [← hY]; simp
    have dl : w.heap.size < Y.heap.size := by rw [← hY]; simp
    rw [hY] at hbY ⊢
    have dc : Y.cell? ⟨b, off + k, none⟩ = some (.int .i64 z) := (hbY.cell (p := ⟨b, off + k, none⟩) hbl).trans hc
    have dbl : b < Y.heap.size := by have := hbY.size; omega
    have HBY : Hid (Below w.heap.size w Y) := hbY
    have HLO : Hid (LOwn Y.drew.heap.size (Y.drew.alloc (.cells #[.int .i64 (k : Int), .int .i64 1, .int .i64 (z - 1)] 88)) (.slice (some ⟨Y.drew.heap.size, 0, none⟩) 1 1) [⟨(k : Int), 1, z - 1⟩]) := lown_one Y.drew ⟨(k : Int), 1, z - 1⟩
    have hsz := hbY.size
    clear hY hbY hc hbl
    go_region_law (fail)
    all_goals
      go_wp2
      go_ret
      exact ⟨_, rfl, own_lower hsz HLO.out, HBY.out.drew.alloc hsz _⟩
  · by_cases h2 : mg = 2
    · subst h2
      rw [if_neg (by decide), if_pos rfl]
      have hwr : IntKind.i64.wrap (z + 1) = z + 1 := by rw [IntKind.wrap_i64]; omega
      clear h1
      go_enter Tryz.func89, Tryz.ntmps89
      go_wp2_with fail
      have hbY : Below w.heap.size w (w.alloc (.cells #[vs, cs, .int .i64 2, .int .i64 (k : Int)] 25)) := below_alloc _ _
      obtain ⟨Y, hY⟩ : ∃ Y, w.alloc (.cells #[vs, cs, .int .i64 2, .int .i64 (k : Int)] 25) = Y := ⟨_, rfl⟩
      have d3 : Y.cell? ⟨w.heap.size, 3, none⟩ = some (.int .i64 (k : Int)) := by rw [← hY]; simp
      have dl : w.heap.size < Y.heap.size := by rw [← hY]; simp
      rw [hY] at hbY ⊢
      have dc : Y.cell? ⟨b, off + k, none⟩ = some (.int .i64 z) := (hbY.cell (p := ⟨b, off + k, none⟩) hbl).trans hc
      have dbl : b < Y.heap.size := by have := hbY.size; omega
      have HBY : Hid (Below w.heap.size w Y) := hbY
      have HLO : Hid (LOwn Y.drew.heap.size (Y.drew.alloc (.cells #[.int .i64 (k : Int), .int .i64 2, .int .i64 (z + 1)] 88)) (.slice (some ⟨Y.drew.heap.size, 0, none⟩) 1 1) [⟨(k : Int), 2, z + 1⟩]) := lown_one Y.drew ⟨(k : Int), 2, z + 1⟩
      have hsz := hbY.size
      clear hY hbY hc hbl
      go_region_law (fail)
      all_goals
        go_wp2
        go_ret
        exact ⟨_, rfl, own_lower hsz HLO.out, HBY.out.drew.alloc hsz _⟩
    · rw [if_neg h1, if_neg h2]
      have h1' : (mg == 1) = false := by simpa using h1
      have h2' : (mg == 2) = false := by simpa using h2
      clear h1 h2
      go_enter Tryz.func89, Tryz.ntmps89
      go_wp2
      go_ret
      exact ⟨_, rfl, World.ownsRow_nil _ _ _ _, below_alloc _ _⟩
end Go.Proofs.YtdjbejlbmaiocagGreatDoor
/-
  WALK: package best: Better.
-/
namespace Go.Proofs.YtdjbejlbmaiocagGreatDoor
open Go.RowKit Go.Maps

theorem goal_var (m : Mod) (hm : checkM m = 0) : 0 ≤ m.var ∧ m.var < (m.vars.length : Int) ∧ (m.goal = 0 ∨ m.goal = 1 ∨ m.goal = 2) := by
  obtain ⟨h1, _, _, _, _, h6⟩ := checkM_vars m hm
  unfold goalE at h6
  split at h6
  · rename_i hg
    split at h6
    · rename_i hv
      exact ⟨by omega, by omega, Or.inl hg⟩
    · cases h6
  · split at h6
    · rename_i hg
      split at h6
      · rename_i hv
        unfold isVarB at hv
        simp only [Bool.and_eq_true, decide_eq_true_eq] at hv
        exact ⟨hv.1, hv.2, Or.inr hg⟩
      · cases h6
    · cases h6

set_option maxHeartbeats 1600000 in
set_option maxRecDepth 100000 in
theorem better_none (k : Nat) (vs cs v : Value) (w : World) :
    Calls Tryz.prog 89 #[.agg #[vs, cs, .int .i64 0, .int .i64 (k : Int)], v] w fun e w' => ∃ x, e = .returned x ∧ LOwn w.heap.size w' x [] ∧ Below w.heap.size w w' := by
  go_enter Tryz.func89, Tryz.ntmps89
  go_wp2
  go_ret
  exact ⟨_, rfl, World.ownsRow_nil _ _ _ _, below_alloc _ _⟩
set_option maxHeartbeats 3200000 in
set_option maxRecDepth 100000 in
theorem bbetter_any (m : Mod) (vals : List Int) (vs cs v : Value) (w : World) (hma : MArg w vs cs m) (hv : IArg w v vals) :
    Calls Tryz.prog 46 #[modV vs cs m, v] w fun e w' => ∃ x, e = .returned (.tuple #[x, .int .i64 (betterA m vals).2]) ∧ LOwn w.heap.size w' x (betterA m vals).1 ∧ Below w.heap.size w w' := by
  have HMA : Hid (∀ w', Below w.heap.size w w' → MArg w' vs cs m) := fun w' h => MArg.below h hma
  have HIV : Hid (∀ w', Below w.heap.size w w' → IArg w' v vals) := fun w' h => IArg.below h hv
  obtain ⟨⟨a1, c1, rfl, _, hvr⟩, ⟨a2, c2, rfl, _, _⟩⟩ := hma
  have HV : Hid (∀ (i : Nat) (t : MVar), m.vars[i]? = some t → t.name.size ≤ maxLen ∧ ∃ b off, a1 = some ⟨b, off, none⟩ ∧ b < w.heap.size ∧
    w.cell? ⟨b, off + i * 3, none⟩ = some (.string t.name) ∧ w.cell? ⟨b, off + i * 3 + 1, none⟩ = some (.int .i64 t.lo) ∧ w.cell? ⟨b, off + i * 3 + 2, none⟩ = some (.int .i64 t.hi)) := hvr
  obtain ⟨a3, c3, rfl, _, hir⟩ := hv
  have HI : Hid (∀ (i : Nat) (z : Int), vals[i]? = some z → ∃ b off, a3 = some ⟨b, off, none⟩ ∧ b < w.heap.size ∧ w.cell? ⟨b, off + i, none⟩ = some (.int .i64 z)) := hir
  obtain ⟨R, hR⟩ : ∃ R, betterA m vals = R := ⟨_, rfl⟩
  rw [hR]
  obtain ⟨er, her⟩ : ∃ er, checkM m = er := ⟨_, rfl⟩
  have HER : Hid (checkM m = er) := her
  unfold betterA at hR
  rw [her] at hR
  have HR := (show Hid _ from hR)
  clear hR her hvr hir
  have HBT : Hid (∀ (Y : World), Below w.heap.size w Y → 0 ≤ m.var ∧ m.var < (vals.length : Int) → -1000 ≤ valAt vals m.var ∧ valAt vals m.var ≤ 1000 → Calls Tryz.prog 89 #[.agg #[.slice a1 m.vars.length c1, .slice a2 m.cons.length c2, .int .i64 m.goal, .int .i64 m.var], .slice a3 vals.length c3] Y fun e w' => ∃ x, e = .returned x ∧ LOwn Y.heap.size w' x (betterC m vals) ∧ Below Y.heap.size Y w') := fun Y hY h1 h2 =>
    better_any m vals h1 h2 (.slice a1 m.vars.length c1) (.slice a2 m.cons.length c2) _ Y (HIV.out _ hY)
  unfold modV
  go_enter Tryz.func46, Tryz.ntmps46
  go_wp2_with fail
  have hbY : Below w.heap.size w (w.alloc (.cells #[.slice a1 m.vars.length c1, .slice a2 m.cons.length c2, .int .i64 m.goal, .int .i64 m.var] 25)) := below_alloc _ _
  refine (check_model m (.slice a1 m.vars.length c1) (.slice a2 m.cons.length c2) _ (HMA.out _ hbY)).mono ?_
  rintro e w1 ⟨rfl, hb1⟩
  rw [HER.out]
  have HA1 : Hid (w1.heap[w.heap.size]? = some (.cells #[.slice a1 m.vars.length c1, .slice a2 m.cons.length c2, .int .i64 m.goal, .int .i64 m.var] 25)) := (hb1.block _ (by simp)).trans (heap_alloc_new _ _)
  have HBL : Hid (Below w.heap.size w w1) := hbY.trans (hb1.mono (by simp))
  have lq : w.heap.size < w1.heap.size := by have := hb1.size; simp at this; omega
  clear hb1 hbY
  have g0 := blk9 HA1.out 0 _ rfl
  have g1 := blk9 HA1.out 1 _ rfl
  have g2 := blk9 HA1.out 2 _ rfl
  have g3 := blk9 HA1.out 3 _ rfl
  have hsz := HBL.out.size
  by_cases he : er = 0
  · subst he
    have hR := HR.out
    rw [if_pos rfl] at hR
    obtain ⟨q1, q2, q3⟩ := goal_var m HER.out
    by_cases hl : vals.length = m.vars.length
    · rw [if_pos hl] at hR
      have HL : Hid (vals.length = m.vars.length) := hl
      obtain ⟨k, hk⟩ : ∃ k : Nat, m.var = (k : Int) := ⟨m.var.toNat, by omega⟩
      have hkn : k < m.vars.length := by omega
      obtain ⟨t, ht⟩ : ∃ t, m.vars[k]? = some t := ⟨m.vars[k], by rw [List.getElem?_eq_getElem hkn]⟩
      obtain ⟨_, b, off, ha, hbl, c0, c1', c2'⟩ := HV.out k t ht
      obtain ⟨z, hz⟩ : ∃ z, vals[k]? = some z := ⟨vals[k]'(by omega), by rw [List.getElem?_eq_getElem (by omega)]⟩
      obtain ⟨b3, off3, ha3, hbl3, cz⟩ := HI.out k z hz
      subst ha ha3
      have hta := var_ok m HER.out k t ht
      have hvt : varAt m.vars k = t := by unfold varAt; rw [List.getD_eq_getElem?_getD, ht]; rfl
      have hvz : valAt vals m.var = z := by unfold valAt; rw [hk, Int.toNat_natCast, List.getD_eq_getElem?_getD, hz]; rfl
      rw [hvz, hk, Int.toNat_natCast, hvt] at hR
      have HVZ : Hid (valAt vals m.var = z) := hvz
      have HMV : Hid (0 ≤ m.var ∧ m.var < (vals.length : Int)) := ⟨q1, by omega⟩
      have e0 := (HBL.out.cell (p := ⟨b, off + k * 3, none⟩) hbl).trans c0
      have e1 := (HBL.out.cell (p := ⟨b, off + k * 3 + 1, none⟩) hbl).trans c1'
      have e2 := (HBL.out.cell (p := ⟨b, off + k * 3 + 2, none⟩) hbl).trans c2'
      have e3 := (HBL.out.cell (p := ⟨b3, off3 + k, none⟩) hbl3).trans cz
      have lb : b < w1.heap.size := by omega
      have lb3 : b3 < w1.heap.size := by omega
      have hkn' : (k : Int) < (m.vars.length : Int) := by omega
      have hkz : k < vals.length := by omega
      have hkz' : (k : Int) < (vals.length : Int) := by omega
      rw [hk] at g3 HBT
      have hq : ((vals.length : Int) != (m.vars.length : Int)) = false := by rw [hl]; simp
      have hlt2 : -50 ≤ t.lo ∧ t.hi ≤ 50 := by omega
      have HB2 : Hid (∀ o : Obj, Below w.heap.size w (w1.alloc o)) := fun o => HBL.out.alloc HBL.out.size o
      obtain ⟨tn, tl, th⟩ := t
      simp only at e0 e1 e2 hR hlt2 hta
      have HR2 := (show Hid _ from hR)
      have HVB : Hid (valAt vals m.var = z) := HVZ.out
      by_cases hg : m.goal = 0
      · have hR2 := HR2.out
        rw [if_neg (fun h => h.1 hg)] at hR2
        have HN : Hid ((betterC m vals, 0) = R) := hR2
        have hbc : betterC m vals = [] := by unfold betterC; rw [hg]; rfl
        rw [hg] at g2
        have hgb : (m.goal != 0) = false := by rw [hg]; rfl
        clear hR hR2 HR2 HR hl hta hvt hvz q1 q2 q3 c0 c1' c2' cz ht hz hbl hbl3
        have HBT2 : Hid (∀ (Y : World), Calls Tryz.prog 89 #[.agg #[.slice (some ⟨b, off, none⟩) m.vars.length c1, .slice a2 m.cons.length c2, .int .i64 0, .int .i64 (k : Int)], .slice (some ⟨b3, off3, none⟩) vals.length c3] Y fun e w' => ∃ x, e = .returned x ∧ LOwn Y.heap.size w' x [] ∧ Below Y.heap.size Y w') := fun Y => better_none k _ _ _ Y
        clear hg hgb
        go_wp2_with fail
        go_quiet (fail)
        go_wp2_with fail
        refine (HBT2.out _).mono ?_
        rintro e w2 ⟨x, rfl, hx, hb2⟩
        have hBE := below_drewN (HB2.out (.cells #[.string tn, .int .i64 tl, .int .i64 th] 71)) nq
        have HBE : Hid (Below w.heap.size w w2) := hBE.trans (hb2.mono hBE.size)
        have HX : Hid (LOwn w.heap.size w2 x []) := own_lower hBE.size hx
        clear hBE hx hb2
        go_wp2
        go_ret2
        rw [← HN.out, hbc]
        exact ⟨_, rfl, HX.out, HBE.out⟩
      · have hgb : (m.goal != 0) = true := by simpa using hg
        by_cases h1 : z < tl
        · have hR2 := HR2.out
          rw [if_pos ⟨hg, Or.inl h1⟩] at hR2
          have HN : Hid (([], 3) = R) := hR2
          clear hR hR2 HR2 HR hl hta hvt hvz q1 q2 q3 c0 c1' c2' cz ht hz hbl hbl3 hg
          go_wp2_with fail
          go_quiet (fail)
          go_wp2
          go_ret2
          rw [← HN.out]
          exact ⟨_, rfl, World.ownsRow_nil _ _ _ _, below_drewN (HB2.out _) _⟩
        · by_cases h2 : th < z
          · have hR2 := HR2.out
            rw [if_pos ⟨hg, Or.inr h2⟩] at hR2
            have HN : Hid (([], 3) = R) := hR2
            clear hR hR2 HR2 HR hl hta hvt hvz q1 q2 q3 c0 c1' c2' cz ht hz hbl hbl3 hg
            go_wp2_with fail
            go_quiet (fail)
            go_wp2
            go_ret2
            rw [← HN.out]
            exact ⟨_, rfl, World.ownsRow_nil _ _ _ _, below_drewN (HB2.out _) _⟩
          · have hR2 := HR2.out
            rw [if_neg (fun h => by rcases h.2 with h | h <;> omega)] at hR2
            have HN : Hid ((betterC m vals, 0) = R) := hR2
            have HZ : Hid (-1000 ≤ valAt vals m.var ∧ valAt vals m.var ≤ 1000) := by rw [HVB.out]; show _ ∧ _; omega
            rw [hk] at HMV HZ
            clear hR hR2 HR2 HR hl hta hvt hvz q1 q2 q3 c0 c1' c2' cz ht hz hbl hbl3 hg
            go_wp2_with fail
            go_quiet (fail)
            go_wp2_with fail
            have hBE := below_drewN (HB2.out (.cells #[.string tn, .int .i64 tl, .int .i64 th] 71)) nq
            refine (HBT.out _ hBE HMV.out HZ.out).mono ?_
            rintro e w2 ⟨x, rfl, hx, hb2⟩
            have HBE : Hid (Below w.heap.size w w2) := hBE.trans (hb2.mono hBE.size)
            have HX : Hid (LOwn w.heap.size w2 x (betterC m vals)) := own_lower hBE.size hx
            clear hBE hx hb2
            go_wp2
            go_ret2
            rw [← HN.out]
            exact ⟨_, rfl, HX.out, HBE.out⟩
    · rw [if_neg hl] at hR
      have HN : Hid (([], 1) = R) := hR
      have hl' : ((vals.length : Int) != (m.vars.length : Int)) = true := by simpa using (fun h : (vals.length : Int) = (m.vars.length : Int) => hl (by omega))
      clear hR HR hl q1 q2 q3
      go_wp2
      go_ret2
      rw [← HN.out]
      exact ⟨_, rfl, World.ownsRow_nil _ _ _ _, HBL.out⟩
  · have hR := HR.out
    rw [if_neg he] at hR
    have HN : Hid (([], er) = R) := hR
    have he' : (er != 0) = true := by simpa using he
    clear hR HR he
    go_wp2
    go_ret2
    rw [← HN.out]
    exact ⟨_, rfl, World.ownsRow_nil _ _ _ _, HBL.out⟩
end Go.Proofs.YtdjbejlbmaiocagGreatDoor
/-
  PLAIN: climbing from values to better ones; what is best.
-/
namespace Go.Proofs.YtdjbejlbmaiocagGreatDoor

def moreSk (m : Mod) (R : Int × List Int × Sk) : Sk := ⟨R.2.2.cs ++ [heldP m.vars (betterC m R.2.1)], R.2.2.fuel, R.2.2.proof, R.2.2.path⟩
def climbN (m : Mod) : Nat → Int × List Int × Sk → List Int → Ans
  | 0, _, _ => noAns
  | n + 1, R, best => if R.1 = 1 then climbN m n (nextP m.vars (ptsM m) (moreSk m R)) R.2.1
    else if R.1 = 3 then ⟨3, [], []⟩ else if 0 < best.length then ⟨1, best, R.2.2.proof⟩ else ⟨R.1, best, R.2.2.proof⟩
/-- How many values may be better still. -/
def roomR (m : Mod) (R : Int × List Int × Sk) : Nat :=
  if R.1 = 1 then (if m.goal = 1 then (valAt R.2.1 m.var - (varAt m.vars m.var.toNat).lo).toNat + 1 else ((varAt m.vars m.var.toNat).hi - valAt R.2.1 m.var).toNat + 1) else 0
def climbP (m : Mod) (R : Int × List Int × Sk) (best : List Int) : Ans := climbN m (roomR m R + 1) R best
def climbA (m : Mod) (fuel : Int) : Ans := climbP m (solveR m fuel) []
def bestA (m : Mod) (fuel : Int) : Ans × Int :=
  if m.goal = 0 then solveA m fuel
  else if checkM m = 0 then (if fuel < 0 ∨ 300 < fuel then (noAns, 3) else (climbA m fuel, 0)) else (noAns, checkM m)

theorem next_found (m : Mod) (hm : checkM m = 0) (S : Sk) (h : (nextP m.vars (ptsM m) S).1 = 1) : Sol m (nextP m.vars (ptsM m) S).2.1 ∧ ∀ c ∈ S.cs, Hits m.vars (nextP m.vars (ptsM m) S).2.1 c := by
  obtain ⟨_, h2, _⟩ := next_sound m hm (fun _ => False) _ S (Nat.lt_succ_self _) (fun x _ hf => hf.elim)
  obtain ⟨k1, k2, k3⟩ := h2 h
  exact ⟨k1, fun c hc => k2 c (k3 c hc)⟩
theorem better_vars (m : Mod) (hm : checkM m = 0) (vals : List Int) : ∀ l ∈ betterC m vals, 0 ≤ l.var ∧ l.var < (m.vars.length : Int) := by
  obtain ⟨h1, h2, _⟩ := goal_var m hm
  intro l hl
  unfold betterC at hl
  split at hl
  · rw [List.mem_singleton.1 hl]; exact ⟨h1, h2⟩
  · split at hl
    · rw [List.mem_singleton.1 hl]; exact ⟨h1, h2⟩
    · cases hl
/-- Better values are better. -/
theorem better_claB (m : Mod) (vals x : List Int) (hg : m.goal = 1 ∨ m.goal = 2) : claB (betterC m vals) x = true ↔ if m.goal = 1 then valAt x m.var ≤ valAt vals m.var - 1 else valAt vals m.var + 1 ≤ valAt x m.var := by
  unfold betterC
  rcases hg with hg | hg
  · rw [if_pos hg, if_pos hg]
    unfold claB
    simp only [List.any_cons, List.any_nil, Bool.or_false]
    unfold litV valAt
    simp
  · rw [if_neg (by omega), if_pos hg, if_neg (by omega)]
    unfold claB
    simp only [List.any_cons, List.any_nil, Bool.or_false]
    unfold litV valAt
    simp
theorem sol_range (m : Mod) (hm : checkM m = 0) (x : List Int) (h : Sol m x) : (varAt m.vars m.var.toNat).lo ≤ valAt x m.var ∧ valAt x m.var ≤ (varAt m.vars m.var.toNat).hi := by
  obtain ⟨h1, h2, _⟩ := goal_var m hm
  have := h.1.2 m.var.toNat (by omega)
  rwa [Int.toNat_of_nonneg h1] at this
theorem climb_room (m : Mod) (hm : checkM m = 0) (hg : m.goal = 1 ∨ m.goal = 2) (R : Int × List Int × Sk) (h1 : R.1 = 1) (hs : Sol m R.2.1) : roomR m (nextP m.vars (ptsM m) (moreSk m R)) < roomR m R := by
  have h0 : 0 < roomR m R := by
    unfold roomR
    rw [if_pos h1]
    split <;> omega
  by_cases hn : (nextP m.vars (ptsM m) (moreSk m R)).1 = 1
  · obtain ⟨k1, k2⟩ := next_found m hm (moreSk m R) hn
    have hh := k2 _ (List.mem_append_right _ (List.mem_singleton.2 rfl))
    rw [held_hits m.vars (vars_okP m hm) _ k1.1 _ (better_vars m hm _)] at hh
    rw [better_claB m _ _ hg] at hh
    have r1 := sol_range m hm _ k1
    have r2 := sol_range m hm _ hs
    unfold roomR
    rw [if_pos hn, if_pos h1]
    split
    · rename_i hq
      rw [if_pos hq] at hh
      omega
    · rename_i hq
      rw [if_neg hq] at hh
      omega
  · unfold roomR
    rw [if_neg hn]
    exact h0
theorem climb_fuel (m : Mod) (hm : checkM m = 0) (hg : m.goal = 1 ∨ m.goal = 2) : ∀ (f g : Nat) (R : Int × List Int × Sk) (b : List Int), (R.1 = 1 → Sol m R.2.1) → roomR m R < f → roomR m R < g → climbN m f R b = climbN m g R b
  | 0, g, R, b, _, hf, _ => by omega
  | f + 1, 0, R, b, _, _, hg => by omega
  | f + 1, g + 1, R, b, hs, hf, hg' => by
    unfold climbN
    split
    · rename_i h1
      have := climb_room m hm hg R h1 (hs h1)
      exact climb_fuel m hm hg f g _ _ (fun h => (next_found m hm _ h).1) (by omega) (by omega)
    · rfl
theorem climb_step (m : Mod) (hm : checkM m = 0) (hg : m.goal = 1 ∨ m.goal = 2) (R : Int × List Int × Sk) (b : List Int) (hs : R.1 = 1 → Sol m R.2.1) : climbP m R b = if R.1 = 1 then climbP m (nextP m.vars (ptsM m) (moreSk m R)) R.2.1
    else if R.1 = 3 then ⟨3, [], []⟩ else if 0 < b.length then ⟨1, b, R.2.2.proof⟩ else ⟨R.1, b, R.2.2.proof⟩ := by
  conv => lhs; unfold climbP climbN
  split
  · rename_i h1
    have := climb_room m hm hg R h1 (hs h1)
    exact climb_fuel m hm hg _ _ _ _ (fun h => (next_found m hm _ h).1) (by omega) (by omega)
  · rfl
/-- What a searcher keeps of its bounds. -/
theorem next_ok (vs : List MVar) (hv : VarsOk vs) (pt : List (List Nat)) : ∀ (N : Nat) (S : Sk), openSk vs S < N → SkO vs S → (nextP vs pt S).1 = 1 → SkO vs (nextP vs pt S).2.2 ∧ (nextP vs pt S).2.2.cs.length + (nextP vs pt S).2.2.fuel = S.cs.length + S.fuel
  | 0, S, h, _ => by omega
  | N + 1, S, h, hs => by
    rw [next_step vs hv]
    split
    · split
      · rename_i h0
        intro h1
        obtain ⟨k1, k2⟩ := next_ok vs hv pt N _ (by have := turn_open vs pt S h0; omega) (turn_ok vs pt S hs h0) h1
        refine ⟨k1, k2.trans ?_⟩
        have hf := turn_fuel vs pt S h0
        unfold turnP at h0 hf ⊢
        split
        · rename_i hc; rw [if_pos hc] at h0
        · rename_i hc0
          rw [if_neg hc0] at h0 hf
          split
          · rename_i hc; rw [if_pos hc] at h0; cases h0
          · rename_i hc1
            rw [if_neg hc1] at h0 hf
            split
            · rename_i hc; rw [if_pos hc] at h0; cases h0
            · simp only [List.length_append, List.length_singleton]
              omega
      · rename_i h0
        intro h1
        simp only at h1
        unfold turnP at h0 h1
        split at h1
        · cases h1
        · split at h1
          · cases h1
          · split at h1
            · cases h1
            · cases h1
    · split
      · exact fun _ => ⟨hs, rfl⟩
      · rename_i hf
        intro h1
        exact next_ok vs hv pt N _ (by have := dec_open vs hv pt S hf; omega) (dec_ok vs hv pt S hs hf) h1
theorem next_ok1 (vs : List MVar) (hv : VarsOk vs) (pt : List (List Nat)) (S : Sk) (hs : SkO vs S) (h : (nextP vs pt S).1 = 1) : SkO vs (nextP vs pt S).2.2 ∧ (nextP vs pt S).2.2.cs.length + (nextP vs pt S).2.2.fuel = S.cs.length + S.fuel := next_ok vs hv pt _ S (Nat.lt_succ_self _) hs h
theorem room_le (m : Mod) (hm : checkM m = 0) (R : Int × List Int × Sk) (hs : R.1 = 1 → Sol m R.2.1) : roomR m R ≤ 6 := by
  unfold roomR
  by_cases h1 : R.1 = 1
  · rw [if_pos h1]
    have r := sol_range m hm _ (hs h1)
    have h6 := (vars_okP m hm).2 m.var.toNat
    unfold sizeV at h6
    split <;> omega
  · rw [if_neg h1]; omega

/-- x is no better than vals. -/
def NoBetter (m : Mod) (vals x : List Int) : Prop := if m.goal = 1 then valAt vals m.var ≤ valAt x m.var else valAt x m.var ≤ valAt vals m.var
/-- WHAT IS BEST: at each step all clauses hold of all values that are better than those at hand. -/
theorem climb_sound (m : Mod) (hm : checkM m = 0) (hg : m.goal = 1 ∨ m.goal = 2) : ∀ (N : Nat) (S : Sk) (b : List Int), roomR m (nextP m.vars (ptsM m) S) < N → Sound m (fun x => b = [] ∨ ¬ NoBetter m b x) S → (b = [] ∨ (Sol m b ∧ heldP m.vars (betterC m b) ∈ S.cs)) →
    ((climbP m (nextP m.vars (ptsM m) S) b).verdict = 1 → ∀ x, Sol m x → NoBetter m (climbP m (nextP m.vars (ptsM m) S) b).values x) ∧
    ((climbP m (nextP m.vars (ptsM m) S) b).verdict = 2 → ∀ x, ¬ Sol m x) ∧
    ((climbP m (nextP m.vars (ptsM m) S) b).verdict = 1 → Sol m (climbP m (nextP m.vars (ptsM m) S) b).values) ∧
    ((climbP m (nextP m.vars (ptsM m) S) b).verdict = 1 ∨ (climbP m (nextP m.vars (ptsM m) S) b).verdict = 2 ∨ (climbP m (nextP m.vars (ptsM m) S) b).verdict = 3)
  | 0, S, b, h, _, _ => by omega
  | N + 1, S, b, h, hs, hb => by
    obtain ⟨n1, n2, n3, n4, n5⟩ := next_sound m hm _ _ S (Nat.lt_succ_self _) hs
    rw [climb_step m hm hg _ _ (fun h => (n2 h).1)]
    split
    · rename_i h1
      obtain ⟨k1, k2, k3⟩ := n2 h1
      refine climb_sound m hm hg N (moreSk m (nextP m.vars (ptsM m) S)) _ (by have := climb_room m hm hg _ h1 k1; omega) (fun x hx hn c hc => ?_) (Or.inr ⟨k1, List.mem_append_right _ (List.mem_singleton.2 rfl)⟩)
      have hne : (nextP m.vars (ptsM m) S).2.1 ≠ [] := fun he => by
        have h1 := k1.1.1
        rw [he] at h1
        have := vars_one m hm
        simp at h1
        omega
      have hbx : ¬ NoBetter m (nextP m.vars (ptsM m) S).2.1 x := by
        rcases hn with hn | hn
        · exact absurd hn hne
        · exact hn
      rcases List.mem_append.1 hc with hc | hc
      · refine n1 x hx ?_ c hc
        rcases hb with hb | ⟨hb1, hb2⟩
        · exact Or.inl hb
        · right
          have hh := k2 _ (k3 _ hb2)
          rw [held_hits m.vars (vars_okP m hm) _ k1.1 _ (better_vars m hm _), better_claB m _ _ hg] at hh
          intro hnb
          unfold NoBetter at hbx hnb
          by_cases hq : m.goal = 1
          · rw [if_pos hq] at hh hbx hnb; omega
          · rw [if_neg hq] at hh hbx hnb; omega
      · rw [List.mem_singleton.1 hc, held_hits m.vars (vars_okP m hm) _ hx.1 _ (better_vars m hm _), better_claB m _ _ hg]
        unfold NoBetter at hbx
        by_cases hq : m.goal = 1
        · rw [if_pos hq] at hbx ⊢; omega
        · rw [if_neg hq] at hbx ⊢; omega
    · rename_i h1
      split
      · exact ⟨(fun h => by cases h), (fun h => by cases h), (fun h => by cases h), Or.inr (Or.inr rfl)⟩
      · rename_i h3
        have h2 : (nextP m.vars (ptsM m) S).1 = 2 := by omega
        have hno := n3 h2
        split
        · rename_i hl
          rcases hb with hb | ⟨hb1, hb2⟩
          · rw [hb] at hl; cases hl
          · refine ⟨fun _ x hx => ?_, (fun h => by cases h), fun _ => hb1, Or.inl rfl⟩
            apply Classical.byContradiction
            intro hn
            exact hno x hx (Or.inr hn)
        · rename_i hl
          have hbn : b = [] := List.length_eq_zero_iff.1 (by omega)
          refine ⟨fun h => ?_, fun _ x hx => hno x hx (Or.inl hbn), fun h => ?_, Or.inr (Or.inl h2)⟩
          · simp only at h
            omega
          · simp only at h
            omega
end Go.Proofs.YtdjbejlbmaiocagGreatDoor
/-
  PLAIN: what is answered is verified, and what is verified is best.
-/
namespace Go.Proofs.YtdjbejlbmaiocagGreatDoor

/-- What a proof of values is given. -/
def givenG (m : Mod) (b : List Int) : List Nat := if b = [] then [] else [heldP m.vars (betterC m b)]
theorem better_held (m : Mod) (hm : checkM m = 0) (hg : m.goal = 1 ∨ m.goal = 2) (a b : List Int) (hab : if m.goal = 1 then valAt b m.var ≤ valAt a m.var - 1 else valAt a m.var + 1 ≤ valAt b m.var) : Impl [heldP m.vars (betterC m b)] (heldP m.vars (betterC m a)) := by
  have hv := vars_okP m hm
  have one : ∀ (x : List Int) (i : Nat), (heldP m.vars (betterC m x)).testBit i = true ↔ (wholeP m.vars).testBit i = true ∧ (i / 6 : Nat) = m.var.toNat ∧ (if m.goal = 1 then (varAt m.vars (i / 6)).lo + ((i % 6 : Nat) : Int) ≤ valAt x m.var - 1 else valAt x m.var + 1 ≤ (varAt m.vars (i / 6)).lo + ((i % 6 : Nat) : Int)) := fun x i => by
    obtain ⟨g1, g2, _⟩ := goal_var m hm
    unfold heldP wholeP ofP
    rw [testBit_of m.vars hv, testBit_of m.vars hv]
    simp only [Bool.and_eq_true, decide_eq_true_eq, and_true]
    unfold betterC
    rcases hg with hg | hg
    · rw [if_pos hg, if_pos hg]
      unfold oneB
      simp only [List.any_cons, List.any_nil, Bool.or_false, Bool.and_eq_true, decide_eq_true_eq]
      unfold litV
      simp
      constructor
      · rintro ⟨h1, h2, h3, h4⟩; exact ⟨⟨h1, h2⟩, by omega, h4⟩
      · rintro ⟨⟨h1, h2⟩, h3, h4⟩; exact ⟨h1, h2, by omega, h4⟩
    · rw [if_neg (by omega), if_pos hg, if_neg (by omega)]
      unfold oneB
      simp only [List.any_cons, List.any_nil, Bool.or_false, Bool.and_eq_true, decide_eq_true_eq]
      unfold litV
      simp
      constructor
      · rintro ⟨h1, h2, h3, h4⟩; exact ⟨⟨h1, h2⟩, by omega, h4⟩
      · rintro ⟨⟨h1, h2⟩, h3, h4⟩; exact ⟨h1, h2, by omega, h4⟩
  refine impl_sub _ _ m.var.toNat (fun i hi => ?_) (fun i hi => ((one a i).1 hi).2.1)
  obtain ⟨h1, h2, h3⟩ := (one b i).1 hi
  refine (one a i).2 ⟨h1, h2, ?_⟩
  by_cases hq : m.goal = 1
  · rw [if_pos hq] at hab h3 ⊢; omega
  · rw [if_neg hq] at hab h3 ⊢; omega
theorem start_proof (m : Mod) (fuel : Int) : PrOk m [] (startSk fuel) := ⟨rfl, (fun c hc => by cases hc), (fun s hs => by cases hs), (fun s hs => by cases hs), (fun s hs => by cases hs), (fun l hl => by cases hl)⟩
theorem climb_proof (m : Mod) (hm : checkM m = 0) (hg : m.goal = 1 ∨ m.goal = 2) : ∀ (N : Nat) (S : Sk) (b : List Int), roomR m (nextP m.vars (ptsM m) S) < N → PrOk m (givenG m b) S → SkO m.vars S → S.cs.length + S.fuel + roomR m (nextP m.vars (ptsM m) S) ≤ 400 → (b = [] ∨ heldP m.vars (betterC m b) ∈ S.cs) →
    ((climbP m (nextP m.vars (ptsM m) S) b).verdict = 1 → PrEnd m [heldP m.vars (betterC m (climbP m (nextP m.vars (ptsM m) S) b).values)] (climbP m (nextP m.vars (ptsM m) S) b).proof ∧ (climbP m (nextP m.vars (ptsM m) S) b).proof.length ≤ 6000) ∧
    ((climbP m (nextP m.vars (ptsM m) S) b).verdict = 2 → PrEnd m [] (climbP m (nextP m.vars (ptsM m) S) b).proof ∧ (climbP m (nextP m.vars (ptsM m) S) b).proof.length ≤ 6000 ∧ (climbP m (nextP m.vars (ptsM m) S) b).values = [])
  | 0, S, b, h, _, _, _, _ => by omega
  | N + 1, S, b, h, hp, ho, hbd, hb => by
    obtain ⟨n1, n2⟩ := next_proof m hm (givenG m b) _ S (Nat.lt_succ_self _) hp ho
    have nf := next_found m hm S
    have nk := next_ok1 m.vars (vars_okP m hm) (ptsM m) S ho
    obtain ⟨_, _, _, n4, _⟩ := next_sound m hm (fun _ => False) _ S (Nat.lt_succ_self _) (fun x _ hf => hf.elim)
    obtain ⟨R, hR⟩ : ∃ R, nextP m.vars (ptsM m) S = R := ⟨_, rfl⟩
    rw [hR] at n1 n2 nf nk n4 hbd h ⊢
    rw [climb_step m hm hg _ _ (fun h => (nf h).1)]
    split
    · rename_i h1
      have hroom := climb_room m hm hg R h1 (nf h1).1
      have hp1 := n1 h1
      obtain ⟨k1, k2⟩ := nk h1
      have hne : R.2.1 ≠ [] := fun he => by
        have h1 := (nf h1).1.1.1
        rw [he] at h1
        have := vars_one m hm
        simp at h1
        omega
      have hgg : givenG m R.2.1 = [heldP m.vars (betterC m R.2.1)] := by unfold givenG; rw [if_neg hne]
      have himp : ∀ c ∈ givenG m b, Impl (givenG m R.2.1) c := fun c hc => by
        unfold givenG at hc
        by_cases hbn : b = []
        · rw [if_pos hbn] at hc; cases hc
        · rw [if_neg hbn] at hc
          rw [List.mem_singleton.1 hc, hgg]
          rcases hb with hb | hb
          · exact absurd hb hbn
          · have hh := (nf h1).2 _ hb
            rw [held_hits m.vars (vars_okP m hm) _ (nf h1).1.1 _ (better_vars m hm _), better_claB m _ _ hg] at hh
            exact better_held m hm hg b R.2.1 hh
      refine climb_proof m hm hg N (moreSk m R) R.2.1 (by omega) ⟨steps_impl m hm _ _ _ himp hp1.stp, fun c hc => ?_, hp1.cla, hp1.thr, hp1.non, hp1.pth⟩ ⟨k1.prf, ?_, k1.path⟩ ?_ (Or.inr (List.mem_append_right _ (List.mem_singleton.2 rfl)))
      · rcases List.mem_append.1 hc with hc | hc
        · refine impl_trans (hp1.imp c hc) fun d hd => ?_
          rcases List.mem_append.1 hd with hd | hd
          · exact impl_more (himp d hd) fun e he => List.mem_append_left _ he
          · exact impl_mem (List.mem_append_right _ hd)
        · rw [List.mem_singleton.1 hc, hgg]
          exact impl_mem (List.mem_append_left _ (List.mem_singleton.2 rfl))
      · unfold moreSk
        simp only [List.length_append, List.length_singleton]
        omega
      · have h5 : (moreSk m R).cs.length + (moreSk m R).fuel = R.2.2.cs.length + 1 + R.2.2.fuel := by unfold moreSk; simp only [List.length_append, List.length_singleton]
        omega
    · rename_i h1
      split
      · exact ⟨fun h => (by cases h), fun h => (by cases h)⟩
      · rename_i h3
        have h2 : R.1 = 2 := by omega
        obtain ⟨p1, p2⟩ := n2 h2
        split
        · rename_i hl
          have hbn : b ≠ [] := fun he => by rw [he] at hl; cases hl
          refine ⟨fun _ => ⟨?_, p2⟩, fun h => (by cases h)⟩
          unfold givenG at p1
          rw [if_neg hbn] at p1
          exact p1
        · rename_i hl
          have hbn : b = [] := List.length_eq_zero_iff.1 (by omega)
          refine ⟨fun h => ?_, fun _ => ⟨?_, p2, hbn⟩⟩
          · simp only at h
            omega
          · unfold givenG at p1
            rw [if_pos hbn] at p1
            exact p1
theorem pcheck_end (m : Mod) (hm : checkM m = 0) (given : List Cla) (hg : clasE m.vars given = 0) (P : List MStep) (hp : PrEnd m (given.map (heldP m.vars)) P) (hl : P.length ≤ 6000) : pcheckA m given P = (true, 0) := by
  have he : stepsE m given P = 0 := by
    unfold stepsE
    rw [if_pos hm, if_neg (by omega), if_pos hg]
    have h1 : firstE (P.map fun s => claE m.vars s.cla) = 0 := firstE_zero _ fun e he => by
      obtain ⟨s, hs, rfl⟩ := List.mem_map.1 he
      exact hp.cla s hs
    rw [if_pos h1, if_pos (List.all_eq_true.2 hp.thr)]
  unfold pcheckA
  rw [if_pos he, if_pos hp.lst, hp.stp]
theorem better_right (m : Mod) (hm : checkM m = 0) (vals : List Int) (hs : Sol m vals) : clasE m.vars [betterC m vals] = 0 := by
  obtain ⟨g1, g2, _⟩ := goal_var m hm
  have hr := sol_range m hm _ hs
  have hb := vars_bounds m hm m.var.toNat (by omega)
  have h1 : claE m.vars (betterC m vals) = 0 := by
    unfold claE betterC
    split
    · simp only [List.length_cons, List.length_nil, List.map_cons, List.map_nil]
      rw [if_neg (by omega)]
      refine firstE_zero _ fun e he => ?_
      rw [List.mem_singleton.1 he]
      unfold litE
      rw [if_neg (by simp only; omega), if_neg (by simp only; omega), if_neg (by simp only; omega)]
    · split
      · simp only [List.length_cons, List.length_nil, List.map_cons, List.map_nil]
        rw [if_neg (by omega)]
        refine firstE_zero _ fun e he => ?_
        rw [List.mem_singleton.1 he]
        unfold litE
        rw [if_neg (by simp only; omega), if_neg (by simp only; omega), if_neg (by simp only; omega)]
      · rfl
  unfold clasE
  simp only [List.length_cons, List.length_nil, List.map_cons, List.map_nil]
  rw [if_neg (by omega)]
  refine firstE_zero _ fun e he => ?_
  rw [List.mem_singleton.1 he]
  exact h1
theorem all_of_sol (m : Mod) (hm : checkM m = 0) (x : List Int) (h : Sol m x) : allA m x = (true, 0) := by
  unfold allA
  rw [if_pos hm, if_pos h.1.1]
  have h1 : (m.vars.zip x).all (fun p => insideV p.1 p.2) = true := by
    refine List.all_eq_true.2 fun p hp => ?_
    obtain ⟨i, hi⟩ := List.mem_iff_getElem?.1 hp
    rw [List.getElem?_zip_eq_some] at hi
    have hil := (List.getElem?_eq_some_iff.1 hi.1).1
    have := h.1.2 i hil
    have e1 : varAt m.vars i = p.1 := by unfold varAt; rw [List.getD_eq_getElem?_getD, hi.1]; rfl
    have e2 : valAt x (i : Int) = p.2 := by unfold valAt; rw [Int.toNat_natCast, List.getD_eq_getElem?_getD, hi.2]; rfl
    rw [e1, e2] at this
    unfold insideV
    simp
    exact this
  have h2 : m.cons.all (fun c => holdsC c x) = true := List.all_eq_true.2 h.2
  rw [h1, h2]; rfl
/-- What is verified of a model. -/
def verifyM (m : Mod) (vals : List Int) (l : List MStep) : Bool × Int :=
  if vals.length = 0 then pcheckA m [] l
  else if (betterA m vals).2 = 0 then (if (pcheckA m [(betterA m vals).1] l).1 then allA m vals else pcheckA m [(betterA m vals).1] l) else (false, (betterA m vals).2)
theorem better_sol (m : Mod) (hm : checkM m = 0) (vals : List Int) (hs : Sol m vals) : betterA m vals = (betterC m vals, 0) := by
  unfold betterA
  rw [if_pos hm, if_pos hs.1.1]
  have hr := sol_range m hm _ hs
  rw [if_neg (fun h => by rcases h.2 with h | h <;> omega)]
/-- WHAT IS ANSWERED IS VERIFIED. -/
theorem best_verified (m : Mod) (fuel : Int) (he : (bestA m fuel).2 = 0) (hv : (bestA m fuel).1.verdict = 2 ∨ ((bestA m fuel).1.verdict = 1 ∧ m.goal ≠ 0)) : verifyM m (bestA m fuel).1.values (bestA m fuel).1.proof = (true, 0) := by
  unfold bestA at he hv ⊢
  by_cases hg : m.goal = 0
  · rw [if_pos hg] at he hv ⊢
    unfold solveA at he hv ⊢
    by_cases hm : checkM m = 0
    · rw [if_pos hm] at he hv ⊢
      by_cases hf : fuel < 0 ∨ 300 < fuel
      · rw [if_pos hf] at he; cases he
      · rw [if_neg hf] at he hv ⊢
        by_cases h2 : (solveR m fuel).1 = 2
        · rw [if_pos h2]
          obtain ⟨p1, p2⟩ := (next_proof m hm [] _ (startSk fuel) (Nat.lt_succ_self _) (start_proof m fuel) (start_ok m.vars fuel (by omega))).2 h2
          unfold verifyM
          exact (if_pos rfl).trans (pcheck_end m hm [] rfl _ p1 p2)
        · rw [if_neg h2] at hv
          rcases hv with hv | hv
          · exact absurd hv h2
          · exact absurd hg hv.2
    · rw [if_neg hm] at he
      exact absurd he hm
  · rw [if_neg hg] at he hv ⊢
    by_cases hm : checkM m = 0
    · rw [if_pos hm] at he hv ⊢
      obtain ⟨_, _, hgo⟩ := goal_var m hm
      have hg2 : m.goal = 1 ∨ m.goal = 2 := by omega
      by_cases hf : fuel < 0 ∨ 300 < fuel
      · rw [if_pos hf] at he; cases he
      · rw [if_neg hf] at he hv ⊢
        have hrl := room_le m hm (nextP m.vars (ptsM m) (startSk fuel)) (fun h => (next_found m hm _ h).1)
        obtain ⟨p1, p2⟩ := climb_proof m hm hg2 _ (startSk fuel) [] (Nat.lt_succ_self _) (start_proof m fuel) (start_ok m.vars fuel (by omega)) (by simp only [startSk, List.length_nil]; change 0 + fuel.toNat + roomR m (nextP m.vars (ptsM m) (startSk fuel)) ≤ 400; omega) (Or.inl rfl)
        obtain ⟨_, _, c3, _⟩ := climb_sound m hm hg2 _ (startSk fuel) [] (Nat.lt_succ_self _) (fun x _ _ c hc => by cases hc) (Or.inl rfl)
        change (climbA m fuel).verdict = 1 → PrEnd m [heldP m.vars (betterC m (climbA m fuel).values)] (climbA m fuel).proof ∧ (climbA m fuel).proof.length ≤ 6000 at p1
        change (climbA m fuel).verdict = 2 → PrEnd m [] (climbA m fuel).proof ∧ (climbA m fuel).proof.length ≤ 6000 ∧ (climbA m fuel).values = [] at p2
        change (climbA m fuel).verdict = 1 → Sol m (climbA m fuel).values at c3
        simp only at hv ⊢
        rcases hv with hv | ⟨hv, _⟩
        · obtain ⟨q1, q2, q3⟩ := p2 hv
          unfold verifyM
          rw [if_pos (by rw [q3]; rfl)]
          exact pcheck_end m hm [] rfl _ q1 q2
        · obtain ⟨q1, q2⟩ := p1 hv
          have hs := c3 hv
          have hn0 : ¬ (climbA m fuel).values.length = 0 := by rw [hs.1.1]; have := vars_one m hm; omega
          unfold verifyM
          rw [if_neg hn0, better_sol m hm _ hs, if_pos rfl]
          have hpc := pcheck_end m hm [betterC m (climbA m fuel).values] (better_right m hm _ hs) _ q1 q2
          simp only
          rw [hpc, if_pos rfl, all_of_sol m hm _ hs]
    · rw [if_neg hm] at he
      exact absurd he hm
/-- WHAT IS VERIFIED IS BEST, or there is nothing. -/
theorem verified_best (m : Mod) (vals : List Int) (l : List MStep) (x : List Int) (hv : verifyM m vals l = (true, 0)) (hx : allA m x = (true, 0)) : vals.length ≠ 0 ∧ (m.goal = 1 → valAt vals m.var ≤ valAt x m.var) ∧ (m.goal = 2 → valAt x m.var ≤ valAt vals m.var) := by
  obtain ⟨hm, hms, hcs⟩ := allA_parts m x hx
  have fin : ∀ given, pcheckA m given l = (true, 0) → (∀ d ∈ given, claB d x = true) → False := fun given hp hd => by
    unfold pcheckA at hp
    by_cases he : stepsE m given l = 0
    · rw [if_pos he] at hp
      obtain ⟨e1, e2, e3, e4, e5⟩ := stepsE_ok m given l he
      by_cases hl : lastB l = true
      · rw [if_pos hl] at hp
        have hst : stepsP m (given.map (heldP m.vars)) l = true := by simpa using hp
        unfold lastB at hl
        cases hgl : l.getLast? with
        | none => rw [hgl] at hl; cases hl
        | some s =>
          rw [hgl] at hl
          have hs0 : s.cla = [] := List.length_eq_zero_iff.1 (by simpa using hl)
          exact proof_none m given l x hx (fun d hd => (clasE_ok m.vars given e3).2 d hd) e4 e5 hd hst s (List.mem_of_getLast? hgl) hs0
      · rw [if_neg hl] at hp; cases hp
    · rw [if_neg he] at hp; cases hp
  unfold verifyM at hv
  by_cases h0 : vals.length = 0
  · rw [if_pos h0] at hv
    exact absurd (fin [] hv (fun d hd => by cases hd)) id
  · rw [if_neg h0] at hv
    refine ⟨h0, ?_⟩
    by_cases hb : (betterA m vals).2 = 0
    · rw [if_pos hb] at hv
      have hbc : (betterA m vals).1 = betterC m vals := by
        unfold betterA at hb ⊢
        rw [if_pos hm] at hb ⊢
        split at hb
        · rename_i h1
          rw [if_pos h1]
          split at hb
          · cases hb
          · rename_i h2
            rw [if_neg h2]
        · cases hb
      cases hp : (pcheckA m [(betterA m vals).1] l).1
      · rw [hp] at hv
        simp only [Bool.false_eq_true, if_false] at hv
        rw [hv] at hp; cases hp
      · have hpe : pcheckA m [(betterA m vals).1] l = (true, 0) := by
          unfold pcheckA at hp ⊢
          split
          · rename_i h1
            rw [if_pos h1] at hp
            split
            · rename_i h2
              rw [if_pos h2] at hp
              simp only at hp
              rw [hp]
            · rename_i h2
              rw [if_neg h2] at hp; cases hp
          · rename_i h1
            rw [if_neg h1] at hp; cases hp
        rw [hbc] at hpe
        have key : m.goal = 1 ∨ m.goal = 2 → claB (betterC m vals) x = true → False := fun _ hcl => fin _ hpe (fun d hd => by rw [List.mem_singleton.1 hd]; exact hcl)
        refine ⟨fun hg => ?_, fun hg => ?_⟩
        · apply Classical.byContradiction
          intro hn
          refine key (Or.inl hg) ((better_claB m vals x (Or.inl hg)).2 ?_)
          rw [if_pos hg]; omega
        · apply Classical.byContradiction
          intro hn
          refine key (Or.inr hg) ((better_claB m vals x (Or.inr hg)).2 ?_)
          rw [if_neg (by omega)]; omega
    · rw [if_neg hb] at hv; cases hv
end Go.Proofs.YtdjbejlbmaiocagGreatDoor
/-
  WALK: package best: climb.
-/
namespace Go.Proofs.YtdjbejlbmaiocagGreatDoor
open Go.RowKit Go.Maps

theorem SkD.setO {W w : World} {s r mb : Nat} {sv pv cv prv pav : Value} {L : List SV} {M : List Nat} {S : Sk} {C : Nat} {cs : Array Value} {t : TypeId} (h : SkD W w s r mb sv pv cv prv pav L M S) (hC : w.heap[C]? = some (.cells cs t)) (ht : TNo t) (hCW : W.heap.size ≤ C) (i : Nat) (u : Value) : SkD W (w.setCell ⟨C, i, none⟩ u) s r mb sv pv cv prv pav L M S := by
  have hne : ∀ (q : Nat) (cs' : Array Value) (t' : TypeId), w.heap[q]? = some (.cells cs' t') → t' ≠ t → q ≠ C := fun q cs' t' hq hn he => by
    subst he
    have := hq.symm.trans hC
    simp only [Option.some.injEq, Obj.cells.injEq] at this
    exact hn this.2.1
  exact ⟨(heap_other w ⟨C, i, none⟩ u r (hne r _ _ h.blkR (Ne.symm ht.1))).trans h.blkR, (heap_other w ⟨C, i, none⟩ u s (hne s _ _ h.blkS (Ne.symm ht.2.1))).trans h.blkS, own_set h.own hC ht.2.2.1 i u, h.lt36, h.prf.set hC ht.2.2.2.1 ht.2.2.2.2 i u, h.prfE, h.map.setCell (Ne.symm (blk_not_map hC h.map)) u, own_set h.path hC ht.2.2.2.2 i u, h.apart, h.fr.setNew (p := ⟨C, i, none⟩) hCW u⟩
theorem tno_climber : TNo 78 := by unfold TNo; decide
theorem tno_ans : TNo 29 := by unfold TNo; decide
theorem tno_mod : TNo 25 := by unfold TNo; decide
theorem tno_int : TNo 3 := by unfold TNo; decide
theorem TFr.ofAdd {W w w' : World} {s r mb : Nat} {sv pv cv prv pav : Value} {L : List SV} {M : List Nat} {S : Sk} (h : SkD W w s r mb sv pv cv prv pav L M S) (hf : Fr (fun k => k = r ∨ cv.ownBlock = some k) w w') : TFr w w' :=
  ⟨hf.os, hf.tape, hf.output, hf.size, fun k cs t z hk ht => hf.block k (Array.getElem?_eq_some_iff.1 hk).1 fun hx => by
    rcases hx with hx | hx
    · subst hx
      have := hk.symm.trans h.blkR
      simp only [Option.some.injEq, Obj.cells.injEq] at this
      rw [this.2.1] at ht
      exact tno_rul ht
    · rcases h.own.2 with ⟨hv, _⟩ | ⟨g, cap, cur, hv, _, hh, _⟩
      · rw [hv] at hx; cases hx
      · rw [hv] at hx
        have : g = k := by simpa [Value.ownBlock] using hx
        subst this
        have := hk.symm.trans hh
        simp only [Option.some.injEq, Obj.cells.injEq] at this
        rw [this.2.1] at ht
        exact tno_part ht⟩
structure ClS (m : Mod) (A : Ans) (W : World) (s r mb C qm qa : Nat) (sv cs pv : Value) (v x : Value) (wr : World) (R : Int × List Int × Sk) (best : List Int) (bv cv prv pav : Value) (L : List SV) : Prop where
  ans : climbP m R best = A
  ver : v = .int .i64 R.1
  val : wr.ownsRow W.heap.size 3 1 x R.2.1.length (R.2.1.map (Value.int .i64))
  ok : R.1 = 1 → SkO m.vars R.2.2 ∧ R.2.2.cs.length + R.2.2.fuel + roomR m R ≤ 400
  sol : R.1 = 1 → Sol m R.2.1
  sk : SkD W wr s r mb sv pv cv prv pav L (R.2.2.proof.map fun x => heldP m.vars x.cla) R.2.2
  blkC : wr.heap[C]? = some (.cells #[.pointer (some ⟨s, 0, none⟩), bv] 78)
  blkM : wr.heap[qm]? = some (.cells #[sv, cs, .int .i64 m.goal, .int .i64 m.var] 25)
  blkA : wr.heap[qa]? = some (.cells #[.int .i64 0, .slice none 0 0, .slice none 0 0] 29)
  bst : wr.ownsRow W.heap.size 3 1 bv best.length (best.map (Value.int .i64))
def ClI (m : Mod) (A : Ans) (W : World) (s r mb C qm qa : Nat) (sv cs pv : Value) (v x : Value) (wr : World) (n : Nat) : Prop :=
  ∃ (R : Int × List Int × Sk) (best : List Int) (bv cv prv pav : Value) (L : List SV), roomR m R = n ∧ ClS m A W s r mb C qm qa sv cs pv v x wr R best bv cv prv pav L
/-- Next, asked of a searcher among other things. -/
theorem next_among (m : Mod) (hm : checkM m = 0) (W : World) (s r mb : Nat) (sv pv cv prv pav : Value) (hB : SkB W s r mb sv pv m.vars (ptsM m)) (L : List SV) (S : Sk) (hS : SkO m.vars S) (w : World) (hD : SkD W w s r mb sv pv cv prv pav L (S.proof.map fun x => heldP m.vars x.cla) S) :
    Calls Tryz.prog 73 #[.pointer (some ⟨s, 0, none⟩)] w fun e w' => ∃ x, e = .returned (.tuple #[.int .i64 (nextP m.vars (ptsM m) S).1, x]) ∧ w'.ownsRow W.heap.size 3 1 x (nextP m.vars (ptsM m) S).2.1.length ((nextP m.vars (ptsM m) S).2.1.map (Value.int .i64)) ∧ TFr w w' ∧
      ∃ cv' prv' pav' L', SkD W w' s r mb sv pv cv' prv' pav' L' ((nextP m.vars (ptsM m) S).2.2.proof.map fun x => heldP m.vars x.cla) (nextP m.vars (ptsM m) S).2.2 :=
  (snext_any m.vars (vars_all m hm) (vars_one m hm) (ptsM m) W s r mb sv pv cv prv pav hB L S hS w hD).mono (by
    rintro e w' ⟨x, h1, h2, h3, h4⟩
    exact ⟨x, h1, World.ownsRow.mono h2 hD.fr.size, h3, h4⟩)

set_option maxHeartbeats 6400000 in
set_option maxRecDepth 100000 in
theorem climb_any (m : Mod) (hm : checkM m = 0) (hg : m.goal = 1 ∨ m.goal = 2) (fuel : Nat) (hf : fuel ≤ 300) (W : World) (s r mb C : Nat) (sv cs pv : Value) (hB : SkB W s r mb sv pv m.vars (ptsM m)) (w : World)
    (hD : SkD W w s r mb sv pv (.slice none 0 0) (.slice none 0 0) (.slice none 0 0) [] [] ⟨[], fuel, [], []⟩) (hC : w.heap[C]? = some (.cells #[.pointer (some ⟨s, 0, none⟩), .slice none 0 0] 78)) (hCW : W.heap.size ≤ C) :
    Calls Tryz.prog 42 #[.pointer (some ⟨C, 0, none⟩), modV sv cs m] w fun e w' => ∃ vv pp, e = .returned (.agg #[.int .i64 (climbA m fuel).verdict, vv, pp]) ∧ AnsQ W.heap.size w' vv pp (climbA m fuel) ∧ Fr (XS s r mb) W w' := by
  obtain ⟨A, hA⟩ : ∃ A, climbA m fuel = A := ⟨_, rfl⟩
  rw [hA]
  have HA : Hid (climbP m (nextP m.vars (ptsM m) ⟨[], fuel, [], []⟩) [] = A) := hA
  have HSB : Hid (SkB W s r mb sv pv m.vars (ptsM m)) := hB
  have HM : Hid (checkM m = 0) := hm
  have HG : Hid (m.goal = 1 ∨ m.goal = 2) := hg
  have HCW : Hid (W.heap.size ≤ C) := hCW
  have HD0 := (show Hid _ from hD)
  have hWw := hD.fr.size
  have hCl : C < w.heap.size := (Array.getElem?_eq_some_iff.1 hC).1
  have HC0 : Hid (w.heap[C]? = some (.cells #[.pointer (some ⟨s, 0, none⟩), .slice none 0 0] 78)) := hC
  clear hA hD hB hm hg hCW
  unfold modV
  go_enter Tryz.func42, Tryz.ntmps42
  have c0 := blk9 hC 0 _ rfl
  have c1 := blk9 hC 1 _ rfl
  clear hC
  go_wp2_with fail
  obtain ⟨hq1, hq2⟩ := two_blocks w (.cells #[sv, cs, .int .i64 m.goal, .int .i64 m.var] 25) (.cells #[.int .i64 0, .slice none 0 0, .slice none 0 0] 29)
  have hbY : Below w.heap.size w ((w.alloc (.cells #[sv, cs, .int .i64 m.goal, .int .i64 m.var] 25)).alloc (.cells #[.int .i64 0, .slice none 0 0, .slice none 0 0] 29)) := (below_alloc _ _).alloc (by simp) _
  refine (next_among m HM.out W s r mb sv pv _ _ _ HSB.out [] ⟨[], fuel, [], []⟩ (start_ok m.vars (fuel : Int) (by omega)) _ (HD0.out.below hbY)).mono ?_
  rintro e w1 ⟨x, rfl, hox, htf, cv1, prv1, pav1, L1, hd1⟩
  have HI : Hid (∃ n, ClI m A W s r mb C w.heap.size (w.heap.size + 1) sv cs pv (.int .i64 (nextP m.vars (ptsM m) ⟨[], fuel, [], []⟩).1) x w1 n) := by
    refine ⟨_, nextP m.vars (ptsM m) ⟨[], fuel, [], []⟩, [], .slice none 0 0, cv1, prv1, pav1, L1, rfl, HA.out, rfl, hox, fun h => ?_, fun h => (next_found m HM.out _ h).1, hd1, ?_, ?_, ?_, World.ownsRow_nil _ _ _ _⟩
    · obtain ⟨k1, k2⟩ := next_ok1 m.vars (vars_okP m HM.out) (ptsM m) ⟨[], fuel, [], []⟩ (start_ok m.vars (fuel : Int) (by omega)) h
      have := room_le m HM.out (nextP m.vars (ptsM m) ⟨[], fuel, [], []⟩) (fun h => (next_found m HM.out _ h).1)
      refine ⟨k1, ?_⟩
      simp only [List.length_nil] at k2
      omega
    · have h1 := (hbY.block C hCl).trans HC0.out
      exact (htf.block _ _ _ _ h1 tno_climber).trans h1
    · exact (htf.block _ _ _ _ hq1 tno_mod).trans hq1
    · exact (htf.block _ _ _ _ hq2 tno_ans).trans hq2
  obtain ⟨X1, hX1⟩ : ∃ X1, (nextP m.vars (ptsM m) ⟨[], fuel, [], []⟩).1 = X1 := ⟨_, rfl⟩
  rw [hX1] at HI ⊢
  have hql : C < w.heap.size := hCl
  clear hox htf hd1 hq1 hq2 hbY hX1 HA HC0 HD0 c0 c1
  go_wp2_with fail
  go_loopw [5, 6] (fun v x wr => ∃ n, ClI m A W s r mb C w.heap.size (w.heap.size + 1) sv cs pv v x wr n) (fun v x wr => leastOf (ClI m A W s r mb C w.heap.size (w.heap.size + 1) sv cs pv v x wr))
  case atStart => exact HI.out
  case round =>
    have hsp := leastOf_spec hrel
    obtain ⟨N, hN⟩ : ∃ N, leastOf (ClI m A W s r mb C w.heap.size (w.heap.size + 1) sv cs pv u5 u6 wr) = N := ⟨_, rfl⟩
    have HN : Hid (leastOf (ClI m A W s r mb C w.heap.size (w.heap.size + 1) sv cs pv u5 u6 wr) = N) := hN
    rw [hN] at hsp
    clear hrel HI hN
    obtain ⟨R, best, bv, cv, prv, pav, L, hrm, hcl⟩ := hsp
    obtain rfl := hcl.ver
    have HRM : Hid (roomR m R = N) := hrm
    have HCL : Hid (ClS m A W s r mb C w.heap.size (w.heap.size + 1) sv cs pv (.int .i64 R.1) u6 wr R best bv cv prv pav L) := hcl
    obtain ⟨ax, cx, rfl⟩ := own_form hcl.val
    obtain ⟨ab, cb, rfl⟩ := own_form hcl.bst
    have hst := climb_step m HM.out HG.out R best hcl.sol
    rw [hcl.ans] at hst
    have c0 := blk9 hcl.blkC 0 _ rfl
    have c1 := blk9 hcl.blkC 1 _ rfl
    have cz := frz9 hcl.blkC 1
    have cl := (Array.getElem?_eq_some_iff.1 hcl.blkC).1
    have hWr := hcl.sk.fr.size
    clear hrm hcl
    by_cases h1 : R.1 = 1
    · rw [if_pos h1] at hst
      have HST : Hid (A = climbP m (nextP m.vars (ptsM m) (moreSk m R)) R.2.1) := hst
      have HSOL : Hid (Sol m R.2.1) := HCL.out.sol h1
      have HOK : Hid (SkO m.vars R.2.2 ∧ R.2.2.cs.length + R.2.2.fuel + roomR m R ≤ 400) := HCL.out.ok h1
      have HROOM : Hid (roomR m (nextP m.vars (ptsM m) (moreSk m R)) < N) := by rw [← HRM.out]; exact climb_room m HM.out HG.out R h1 HSOL.out
      rw [h1] at HN ⊢
      have HKY : Hid (SkD W (wr.setCell ⟨C, 1, none⟩ (.slice ax R.2.1.length cx)) s r mb sv pv cv prv pav L (R.2.2.proof.map fun x => heldP m.vars x.cla) R.2.2) := HCL.out.sk.setO HCL.out.blkC tno_climber HCW.out 1 _
      have HCY : Hid ((wr.setCell ⟨C, 1, none⟩ (.slice ax R.2.1.length cx)).heap[C]? = some (.cells #[.pointer (some ⟨s, 0, none⟩), .slice ax R.2.1.length cx] 78)) := by show _ = _; rw [heap_setCell_same wr C 1 _ _ _ HCL.out.blkC]; rfl
      have hnC : ∀ (q : Nat) (cs' : Array Value) (t' : TypeId), wr.heap[q]? = some (.cells cs' t') → t' ≠ 78 → q ≠ C := fun q cs' t' hq hn he => by
        subst he
        have := hq.symm.trans HCL.out.blkC
        simp only [Option.some.injEq, Obj.cells.injEq] at this
        exact hn this.2.1
      have HMY : Hid ((wr.setCell ⟨C, 1, none⟩ (.slice ax R.2.1.length cx)).heap[w.heap.size]? = some (.cells #[sv, cs, .int .i64 m.goal, .int .i64 m.var] 25)) := (heap_other wr ⟨C, 1, none⟩ _ _ (hnC _ _ _ HCL.out.blkM (by decide))).trans HCL.out.blkM
      have HAY : Hid ((wr.setCell ⟨C, 1, none⟩ (.slice ax R.2.1.length cx)).heap[w.heap.size + 1]? = some (.cells #[.int .i64 0, .slice none 0 0, .slice none 0 0] 29)) := (heap_other wr ⟨C, 1, none⟩ _ _ (hnC _ _ _ HCL.out.blkA (by decide))).trans HCL.out.blkA
      have HVY : Hid ((wr.setCell ⟨C, 1, none⟩ (.slice ax R.2.1.length cx)).ownsRow W.heap.size 3 1 (.slice ax R.2.1.length cx) R.2.1.length (R.2.1.map (Value.int .i64))) := own_set HCL.out.val HCL.out.blkC (by decide) 1 _
      clear hst h1 hnC
      go_wp2_with fail
      obtain ⟨Y, hY⟩ : ∃ Y, wr.setCell ⟨C, 1, none⟩ (.slice ax R.2.1.length cx) = Y := ⟨_, rfl⟩
      rw [hY] at HKY HCY HMY HAY HVY ⊢
      clear hY c0 c1 cz cl HCL
      have c0 := blk9 HCY.out 0 _ rfl
      have cl := (Array.getElem?_eq_some_iff.1 HCY.out).1
      have m0 := blk9 HMY.out 0 _ rfl
      have m1 := blk9 HMY.out 1 _ rfl
      have m2 := blk9 HMY.out 2 _ rfl
      have m3 := blk9 HMY.out 3 _ rfl
      have ml := (Array.getElem?_eq_some_iff.1 HMY.out).1
      obtain ⟨s0, s1, s2, s3, s4, s5, s6⟩ := HKY.out.cells
      have HBT : Hid (∀ Z, Below Y.heap.size Y Z → Calls Tryz.prog 89 #[.agg #[sv, cs, .int .i64 m.goal, .int .i64 m.var], .slice ax R.2.1.length cx] Z fun e w' => ∃ x, e = .returned x ∧ LOwn Z.heap.size w' x (betterC m R.2.1) ∧ Below Z.heap.size Z w') := fun Z hZ => by
        obtain ⟨q1, q2, _⟩ := goal_var m HM.out
        have hr := sol_range m HM.out _ HSOL.out
        have hb := vars_bounds m HM.out m.var.toNat (by omega)
        refine better_any m R.2.1 ⟨q1, by rw [HSOL.out.1.1]; exact q2⟩ ⟨by omega, by omega⟩ sv cs _ Z (own_ilist (own_below HVY.out hZ))
      have hcs : R.2.2.cs.length ≤ 1000 := by have := HOK.out.2; omega
      go_region_law
        (first
          | (rw [if_pos (by rfl)]; go_simp; go_at_call 89; refine (HBT.out _ (Below.refl _ _).drew).mono ?_; rintro e w3 ⟨x, rfl, hx3, hb3⟩; have hB3 : Below Y.heap.size Y w3 := (Below.refl _ _).drew.trans hb3; obtain ⟨a3, c3, hxf⟩ := own_form (show w3.ownsRow _ _ _ _ _ _ from hx3); subst hxf; have e0 := (hB3.cell (p := ⟨C, 0, none⟩) cl).trans c0; have e1 := (hB3.cell (p := ⟨s, 1, none⟩) s0).trans s2; have el : C < w3.heap.size := Nat.lt_of_lt_of_le cl hB3.size; have el2 : s < w3.heap.size := Nat.lt_of_lt_of_le s0 hB3.size; dsimp only)
          | (rw [if_pos (by rfl)]; go_simp; go_at_call 88; refine (add_any m.vars (vars_all m HM.out) (ptsM m) R.2.2.cs (by omega) (betterC m R.2.1) (oldW w3 W.heap.size) r sv pv cv _ w3 ((HKY.out.below hB3).rul HSB.out) (HKY.out.below hB3).rulD (LOwn.arg hx3)).mono ?_; rintro e w4 ⟨rfl, cv4, hr4, hf4⟩; dsimp only))
      all_goals
        have HK4 := (HKY.out.below hB3).add (oldW_size w3 _ (HKY.out.below hB3).fr.size) hr4 hf4
        have HT4 : TFr Y w4 := (TFr.below hB3).trans (TFr.ofAdd (HKY.out.below hB3) hf4)
        have HC4 := (HT4.block _ _ _ _ HCY.out tno_climber).trans HCY.out
        have HM4 := (HT4.block _ _ _ _ HMY.out tno_mod).trans HMY.out
        have HA4 := (HT4.block _ _ _ _ HAY.out tno_ans).trans HAY.out
        have HV4 := HT4.own HVY.out tno_int
        have HSK4 : Hid (SkD W w4 s r mb sv pv cv4 prv pav L ((moreSk m R).proof.map fun x => heldP m.vars x.cla) (moreSk m R)) := HK4
        have HC4' := (show Hid _ from HC4)
        have HM4' := (show Hid _ from HM4)
        have HA4' := (show Hid _ from HA4)
        have HV4' := (show Hid _ from HV4)
        have f0 := blk9 HC4 0 _ rfl
        have fl := (Array.getElem?_eq_some_iff.1 HC4).1
        clear HK4 HT4 HC4 HM4 HA4 HV4 hr4 hf4 hx3 hb3 hB3 e0 e1 el el2 c0 cl m0 m1 m2 m3 ml s0 s1 s2 s3 s4 s5 s6
        go_wp2_with fail
        refine (next_among m HM.out W s r mb sv pv _ _ _ HSB.out L (moreSk m R) ⟨HOK.out.1.prf, by have := HOK.out.2; unfold moreSk; simp only [List.length_append, List.length_singleton]; omega, HOK.out.1.path⟩ w4 HSK4.out).mono ?_
        rintro e w5 ⟨x5, rfl, hox5, htf5, cv5, prv5, pav5, L5, hd5⟩
        have HNI : Hid (ClI m A W s r mb C w.heap.size (w.heap.size + 1) sv cs pv (.int .i64 (nextP m.vars (ptsM m) (moreSk m R)).1) x5 w5 (roomR m (nextP m.vars (ptsM m) (moreSk m R)))) := by
          refine ⟨_, R.2.1, .slice ax R.2.1.length cx, cv5, prv5, pav5, L5, rfl, HST.out.symm, rfl, hox5, fun h => ?_, fun h => (next_found m HM.out _ h).1, hd5, (htf5.block _ _ _ _ HC4'.out tno_climber).trans HC4'.out, (htf5.block _ _ _ _ HM4'.out tno_mod).trans HM4'.out, (htf5.block _ _ _ _ HA4'.out tno_ans).trans HA4'.out, htf5.own HV4'.out tno_int⟩
          obtain ⟨k1, k2⟩ := next_ok1 m.vars (vars_okP m HM.out) (ptsM m) (moreSk m R) ⟨HOK.out.1.prf, by have := HOK.out.2; unfold moreSk; simp only [List.length_append, List.length_singleton]; omega, HOK.out.1.path⟩ h
          refine ⟨k1, ?_⟩
          have h2 := HROOM.out
          have h3 := HRM.out
          have h4 := HOK.out.2
          have h5 : (moreSk m R).cs.length + (moreSk m R).fuel = R.2.2.cs.length + 1 + R.2.2.fuel := by unfold moreSk; simp only [List.length_append, List.length_singleton]
          omega
        obtain ⟨X5, hX5⟩ : ∃ X5, (nextP m.vars (ptsM m) (moreSk m R)).1 = X5 := ⟨_, rfl⟩
        rw [hX5] at HNI ⊢
        clear hox5 htf5 hd5 hX5 f0 fl
        go_wp2
        go_roundw
        case rel => exact ⟨_, HNI.out⟩
        case measure => exact Nat.lt_of_le_of_lt (leastOf_le HNI.out) (by rw [HN.out]; exact HROOM.out)
    · rw [if_neg h1] at hst
      have h1' : (R.1 == 1) = false := by simpa using h1
      have r0 := blk9 HCL.out.blkA 0 _ rfl
      have r1 := blk9 HCL.out.blkA 1 _ rfl
      have r2 := blk9 HCL.out.blkA 2 _ rfl
      have z0 := frz9 HCL.out.blkA 0
      have z1 := frz9 HCL.out.blkA 1
      have z2 := frz9 HCL.out.blkA 2
      have rl := (Array.getElem?_eq_some_iff.1 HCL.out.blkA).1
      have HFR : Hid (∀ u0 u1 u2, Fr (XS s r mb) W (((wr.setCell ⟨w.heap.size + 1, 0, none⟩ u0).setCell ⟨w.heap.size + 1, 1, none⟩ u1).setCell ⟨w.heap.size + 1, 2, none⟩ u2)) := fun u0 u1 u2 =>
        ((HCL.out.sk.fr.setNew (p := ⟨w.heap.size + 1, 0, none⟩) (by simp only; omega) u0).setNew (p := ⟨w.heap.size + 1, 1, none⟩) (by simp only; omega) u1).setNew (p := ⟨w.heap.size + 1, 2, none⟩) (by simp only; omega) u2
      have HBA : Hid (wr.heap[w.heap.size + 1]? = some (.cells #[.int .i64 0, .slice none 0 0, .slice none 0 0] 29)) := HCL.out.blkA
      have HBV : Hid (wr.ownsRow W.heap.size 3 1 (.slice ab best.length cb) best.length (best.map (Value.int .i64))) := HCL.out.bst
      have HSK := (show Hid _ from HCL.out.sk)
      obtain ⟨apr, cpr, rfl⟩ := own_form HCL.out.sk.prf.1
      obtain ⟨s0, s1, s2, s3, s4, s5, s6⟩ := HCL.out.sk.cells
      by_cases h3 : R.1 = 3
      · rw [if_pos h3] at hst
        have HN3 : Hid (A = ⟨3, [], []⟩) := hst
        rw [h3]
        clear hst h1 h1' h3 HN HCL HSK c0 c1 cz cl s0 s1 s2 s3 s4 s5 s6
        go_wp2
        refine bodyPost_ret (by simp [results, Tryz.results42, go_sem, *]; try rfl) rfl ?_
        rw [HN3.out]
        exact ⟨_, _, rfl, ansq_no _ _ _, HFR.out _ _ _⟩
      · rw [if_neg h3] at hst
        have h3' : (R.1 == 3) = false := by simpa using h3
        by_cases hb : 0 < best.length
        · rw [if_pos hb] at hst
          have HN3 : Hid (A = ⟨1, best, R.2.2.proof⟩) := hst
          have hb' : (0 : Int) < (best.length : Int) := by omega
          have hb2 : ¬ best = [] := fun h => by rw [h] at hb; cases hb
          have HQ : Hid (∀ u0 u1 u2, AnsQ W.heap.size (((wr.setCell ⟨w.heap.size + 1, 0, none⟩ u0).setCell ⟨w.heap.size + 1, 1, none⟩ u1).setCell ⟨w.heap.size + 1, 2, none⟩ u2) (.slice ab best.length cb) (.slice apr L.length cpr) ⟨1, best, R.2.2.proof⟩) := fun u0 u1 u2 =>
            AnsQ.set3 (w := wr) ⟨HBV.out, L, HSK.out.prf, HSK.out.prfE⟩ HBA.out u0 u1 u2
          clear hst h1 h3 HN HCL HSK cz
          obtain ⟨V1, hV1⟩ : ∃ V1, R.1 = V1 := ⟨_, rfl⟩
          rw [hV1] at h1' h3' ⊢
          clear hV1
          go_wp2_with fail
          go_region_law (fail)
          all_goals
            go_wp2
            refine bodyPost_ret (by simp [results, Tryz.results42, go_sem, *]; try rfl) rfl ?_
            rw [HN3.out]
            exact ⟨_, _, rfl, (HQ.out _ _ _).below (Below.refl _ _).drew, (HFR.out _ _ _).trans (Fr.below (Below.refl _ _).drew)⟩
        · rw [if_neg hb] at hst
          have HN3 : Hid (A = ⟨R.1, best, R.2.2.proof⟩) := hst
          have hb' : ¬ (0 : Int) < (best.length : Int) := by omega
          have hb2 : best = [] := List.length_eq_zero_iff.1 (by omega)
          have HQ : Hid (∀ u0 u1 u2, AnsQ W.heap.size (((wr.setCell ⟨w.heap.size + 1, 0, none⟩ u0).setCell ⟨w.heap.size + 1, 1, none⟩ u1).setCell ⟨w.heap.size + 1, 2, none⟩ u2) (.slice ab best.length cb) (.slice apr L.length cpr) ⟨R.1, best, R.2.2.proof⟩) := fun u0 u1 u2 =>
            AnsQ.set3 (w := wr) ⟨HBV.out, L, HSK.out.prf, HSK.out.prfE⟩ HBA.out u0 u1 u2
          clear hst h1 h3 HN HCL HSK cz HBV
          obtain ⟨V1, hV1⟩ : ∃ V1, R.1 = V1 := ⟨_, rfl⟩
          rw [hV1] at h1' h3' HN3 HQ ⊢
          subst hb2
          clear hV1
          go_wp2_with fail
          go_region_law (fail)
          all_goals
            go_wp2
            refine bodyPost_ret (by simp [results, Tryz.results42, go_sem, *]; try rfl) rfl ?_
            rw [HN3.out]
            exact ⟨_, _, rfl, (HQ.out _ _ _).below (Below.refl _ _).drew, (HFR.out _ _ _).trans (Fr.below (Below.refl _ _).drew)⟩
end Go.Proofs.YtdjbejlbmaiocagGreatDoor
/-
  WALK: package best: Best.
-/
namespace Go.Proofs.YtdjbejlbmaiocagGreatDoor
open Go.RowKit Go.Maps

theorem AnsQ.mono {base base' : Nat} {w : World} {vv pp : Value} {a : Ans} (h : AnsQ base w vv pp a) (hb : base' ≤ base) : AnsQ base' w vv pp a := by
  obtain ⟨L, h1, h2⟩ := h.prf
  exact ⟨World.ownsRow.mono h.val hb, L, h1.mono hb, h2⟩
theorem AnsQ.forms {base : Nat} {w : World} {vv pp : Value} {a : Ans} (h : AnsQ base w vv pp a) : (∃ a1 c1, vv = .slice a1 a.values.length c1) ∧ ∃ a2 n2 c2, pp = .slice a2 n2 c2 := by
  obtain ⟨L, h1, _⟩ := h.prf
  obtain ⟨a2, c2, h3⟩ := own_form h1.1
  exact ⟨own_form h.val, a2, _, c2, h3⟩

set_option maxHeartbeats 3200000 in
set_option maxRecDepth 100000 in
theorem best_any (m : Mod) (fuel : Int) (vs cs : Value) (w : World) (hma : MArg w vs cs m) (hT : TabT w) :
    Calls Tryz.prog 9 #[modV vs cs m, .int .i64 fuel] w fun e w' => ∃ vv pp, e = .returned (.tuple #[.agg #[.int .i64 (bestA m fuel).1.verdict, vv, pp], .int .i64 (bestA m fuel).2]) ∧ AnsQ w.heap.size w' vv pp (bestA m fuel).1 ∧ Below w.heap.size w w' := by
  have HMA : Hid (∀ w', Below w.heap.size w w' → MArg w' vs cs m) := fun w' h => MArg.below h hma
  have HT : Hid (∀ w', Below w.heap.size w w' → TabT w') := fun w' h => hT.below h
  obtain ⟨⟨a1, c1, rfl, _, _⟩, ⟨a2, c2, rfl, _, _⟩⟩ := hma
  obtain ⟨R, hR⟩ : ∃ R, bestA m fuel = R := ⟨_, rfl⟩
  rw [hR]
  obtain ⟨er, her⟩ : ∃ er, checkM m = er := ⟨_, rfl⟩
  have HER : Hid (checkM m = er) := her
  unfold bestA at hR
  rw [her] at hR
  have HR := (show Hid _ from hR)
  clear hR her hT
  unfold modV
  obtain ⟨HA, HB⟩ := two_blocks w (.cells #[.slice a1 m.vars.length c1, .slice a2 m.cons.length c2, .int .i64 m.goal, .int .i64 m.var] 25) (.cells #[.int .i64 0, .slice none 0 0, .slice none 0 0] 29)
  have hbY : Below w.heap.size w ((w.alloc (.cells #[.slice a1 m.vars.length c1, .slice a2 m.cons.length c2, .int .i64 m.goal, .int .i64 m.var] 25)).alloc (.cells #[.int .i64 0, .slice none 0 0, .slice none 0 0] 29)) := (below_alloc _ _).alloc (by simp) _
  have HAH := (show Hid _ from HA)
  have HBH := (show Hid _ from HB)
  have HBY := (show Hid _ from hbY)
  clear HA HB hbY
  by_cases hg : m.goal = 0
  · have hR := HR.out
    rw [if_pos hg] at hR
    have HRS : Hid (solveA m fuel = R) := hR
    have HSV : Hid (∀ Z, Below w.heap.size w Z → Calls Tryz.prog 32 #[.agg #[.slice a1 m.vars.length c1, .slice a2 m.cons.length c2, .int .i64 m.goal, .int .i64 m.var], .int .i64 fuel] Z fun e w' => ∃ vv pp, e = .returned (.tuple #[.agg #[.int .i64 R.1.verdict, vv, pp], .int .i64 R.2]) ∧ AnsQ Z.heap.size w' vv pp R.1 ∧ Below Z.heap.size Z w') := fun Z hZ => by
      rw [← HRS.out]
      exact solve_any m fuel (.slice a1 m.vars.length c1) (.slice a2 m.cons.length c2) Z (HMA.out _ hZ) (HT.out _ hZ)
    obtain ⟨⟨rv, rx, rp⟩, re⟩ := R
    have hgb : (m.goal == 0) = true := by simpa using hg
    clear hR HR hg HRS
    go_enter Tryz.func9, Tryz.ntmps9
    go_wp2_with fail
    refine (HSV.out _ HBY.out).mono ?_
    rintro e w1 ⟨vv, pp, rfl, hq, hb1⟩
    obtain ⟨⟨av, cv, rfl⟩, ap, np, cp, rfl⟩ := hq.forms
    have HB1 : Hid (w1.heap[w.heap.size + 1]? = some (.cells #[.int .i64 0, .slice none 0 0, .slice none 0 0] 29)) := (hb1.block _ (by simp)).trans HBH.out
    have HBL : Hid (Below w.heap.size w w1) := HBY.out.trans (hb1.mono (by simp; omega))
    have hs1 : w.heap.size + 2 ≤ w1.heap.size := by simpa using hb1.size
    have HQ : Hid (∀ u0 u1 u2, AnsQ w.heap.size (((w1.setCell ⟨w.heap.size + 1, 0, none⟩ u0).setCell ⟨w.heap.size + 1, 1, none⟩ u1).setCell ⟨w.heap.size + 1, 2, none⟩ u2) (.slice av rx.length cv) (.slice ap np cp) ⟨rv, rx, rp⟩) := fun u0 u1 u2 => AnsQ.set3 (hq.mono (by simp; omega)) HB1.out u0 u1 u2
    have HBE : Hid (∀ u0 u1 u2, Below w.heap.size w (((w1.setCell ⟨w.heap.size + 1, 0, none⟩ u0).setCell ⟨w.heap.size + 1, 1, none⟩ u1).setCell ⟨w.heap.size + 1, 2, none⟩ u2)) := fun u0 u1 u2 => ((HBL.out.setCell (by simp only; omega) _).setCell (by simp only; omega) _).setCell (by simp only; omega) _
    have r0 := blk9 HB1.out 0 _ rfl
    have r1 := blk9 HB1.out 1 _ rfl
    have r2 := blk9 HB1.out 2 _ rfl
    have z0 := frz9 HB1.out 0
    have z1 := frz9 HB1.out 1
    have z2 := frz9 HB1.out 2
    have lr : w.heap.size + 1 < w1.heap.size := by omega
    clear hq hb1
    go_wp2
    refine bodyPost_ret (by simp [results, Tryz.results9, go_sem, *]; try rfl) rfl ?_
    exact ⟨_, _, rfl, HQ.out _ _ _, HBE.out _ _ _⟩
  · have hR := HR.out
    rw [if_neg hg] at hR
    have hgb : (m.goal == 0) = false := by simpa using hg
    have HR1 := (show Hid _ from hR)
    clear hR HR
    go_enter Tryz.func9, Tryz.ntmps9
    go_wp2_with fail
    refine (check_model m (.slice a1 m.vars.length c1) (.slice a2 m.cons.length c2) _ (HMA.out _ HBY.out)).mono ?_
    rintro e w1 ⟨rfl, hb1⟩
    rw [HER.out]
    have HA1 : Hid (w1.heap[w.heap.size]? = some (.cells #[.slice a1 m.vars.length c1, .slice a2 m.cons.length c2, .int .i64 m.goal, .int .i64 m.var] 25)) := (hb1.block _ (by simp; omega)).trans HAH.out
    have HB1 : Hid (w1.heap[w.heap.size + 1]? = some (.cells #[.int .i64 0, .slice none 0 0, .slice none 0 0] 29)) := (hb1.block _ (by simp)).trans HBH.out
    have HBL : Hid (Below w.heap.size w w1) := HBY.out.trans (hb1.mono (by simp; omega))
    have hs1 : w.heap.size + 2 ≤ w1.heap.size := by simpa using hb1.size
    clear hb1
    have g0 := blk9 HA1.out 0 _ rfl
    have g1 := blk9 HA1.out 1 _ rfl
    have g2 := blk9 HA1.out 2 _ rfl
    have g3 := blk9 HA1.out 3 _ rfl
    have r0 := blk9 HB1.out 0 _ rfl
    have r1 := blk9 HB1.out 1 _ rfl
    have r2 := blk9 HB1.out 2 _ rfl
    have z0 := frz9 HB1.out 0
    have z1 := frz9 HB1.out 1
    have z2 := frz9 HB1.out 2
    have lq : w.heap.size < w1.heap.size := by omega
    have lr : w.heap.size + 1 < w1.heap.size := by omega
    have HBE : Hid (∀ u0 u1 u2, Below w.heap.size w (((w1.setCell ⟨w.heap.size + 1, 0, none⟩ u0).setCell ⟨w.heap.size + 1, 1, none⟩ u1).setCell ⟨w.heap.size + 1, 2, none⟩ u2)) := fun u0 u1 u2 => ((HBL.out.setCell (by simp only; omega) _).setCell (by simp only; omega) _).setCell (by simp only; omega) _
    by_cases he : er = 0
    · subst he
      have hR := HR1.out
      rw [if_pos rfl] at hR
      by_cases hf : fuel < 0 ∨ 300 < fuel
      · rw [if_pos hf] at hR
        have HN : Hid ((noAns, (3 : Int)) = R) := hR
        clear hR HR1
        by_cases hf0 : fuel < 0
        · clear hf
          go_wp2
          refine bodyPost_ret (by simp [results, Tryz.results9, go_sem, *]; try rfl) rfl ?_
          rw [← HN.out]
          exact ⟨_, _, rfl, ansq_no _ _ _, HBE.out _ _ _⟩
        · have hf1 : 300 < fuel := by rcases hf with h | h; exact absurd h hf0; exact h
          clear hf
          go_wp2
          refine bodyPost_ret (by simp [results, Tryz.results9, go_sem, *]; try rfl) rfl ?_
          rw [← HN.out]
          exact ⟨_, _, rfl, ansq_no _ _ _, HBE.out _ _ _⟩
      · rw [if_neg hf] at hR
        have hf0 : ¬ fuel < 0 := fun h => hf (Or.inl h)
        have hf1 : ¬ 300 < fuel := fun h => hf (Or.inr h)
        obtain ⟨fn, rfl⟩ : ∃ fn : Nat, fuel = (fn : Int) := ⟨fuel.toNat, by omega⟩
        have HR2 : Hid ((climbA m (fn : Int), (0 : Int)) = R) := hR
        have hfn : fn ≤ 300 := by omega
        have HGG : Hid (m.goal = 1 ∨ m.goal = 2) := by
          rcases (goal_var m HER.out).2.2 with h | h
          · exact absurd h hg
          · exact h
        clear hR HR1 hf hg
        go_wp2_with fail
        refine (new_any m HER.out fn (.slice a1 m.vars.length c1) (.slice a2 m.cons.length c2) w1 (HMA.out _ HBL.out) (HT.out _ HBL.out)).mono ?_
        rintro e W ⟨s, rfl, r, mb, pv, hB, hD, hbW, hr, hs, hmb⟩
        have HSB : Hid (SkB W s r mb (.slice a1 m.vars.length c1) pv m.vars (ptsM m)) := hB
        have HSD := (show Hid _ from hD)
        have HBW : Hid (Below w1.heap.size w1 W) := hbW
        have hsW := hbW.size
        clear hB hD hbW r0 r1 r2 z0 z1 z2
        have q0 := (HBW.out.cell (p := ⟨w.heap.size, 0, none⟩) lq).trans g0
        have q1 := (HBW.out.cell (p := ⟨w.heap.size, 1, none⟩) lq).trans g1
        have q2 := (HBW.out.cell (p := ⟨w.heap.size, 2, none⟩) lq).trans g2
        have q3 := (HBW.out.cell (p := ⟨w.heap.size, 3, none⟩) lq).trans g3
        have lqW : w.heap.size < W.heap.size := by omega
        clear g0 g1 g2 g3
        go_wp2_with fail
        have hCn := heap_alloc_new W (.cells #[.pointer (some ⟨s, 0, none⟩), .slice none 0 0] 78)
        refine (climb_any m HER.out HGG.out fn hfn W s r mb W.heap.size (.slice a1 m.vars.length c1) (.slice a2 m.cons.length c2) pv HSB.out _ (HSD.out.below (below_alloc _ _)) hCn (Nat.le_refl _)).mono ?_
        rintro e w2 ⟨vv, pp, rfl, hq, hfr⟩
        obtain ⟨⟨av, cv, rfl⟩, ap, np, cp, rfl⟩ := hq.forms
        have HB2 : Hid (w2.heap[w.heap.size + 1]? = some (.cells #[.int .i64 0, .slice none 0 0, .slice none 0 0] 29)) := (hfr.block _ (by omega) (by unfold XS; omega)).trans ((HBW.out.block _ lr).trans HB1.out)
        have HBL2 : Hid (Below w.heap.size w w2) := by
          have h1 := HBL.out.trans (HBW.out.mono HBL.out.size)
          exact ⟨hfr.os.trans h1.os, hfr.tape.trans h1.tape, hfr.output.trans h1.output, Nat.le_trans h1.size hfr.size, fun k hk => (hfr.block k (Nat.lt_of_lt_of_le hk h1.size) (by unfold XS; have := HBL.out.size; omega)).trans (h1.block k hk)⟩
        have hs2 : w.heap.size + 1 < w2.heap.size := (Array.getElem?_eq_some_iff.1 HB2.out).1
        have HQ : Hid (∀ u0 u1 u2, AnsQ w.heap.size (((w2.setCell ⟨w.heap.size + 1, 0, none⟩ u0).setCell ⟨w.heap.size + 1, 1, none⟩ u1).setCell ⟨w.heap.size + 1, 2, none⟩ u2) (.slice av (climbA m (fn : Int)).values.length cv) (.slice ap np cp) (climbA m (fn : Int))) := fun u0 u1 u2 => AnsQ.set3 (hq.mono (by omega)) HB2.out u0 u1 u2
        have HBE2 : Hid (∀ u0 u1 u2, Below w.heap.size w (((w2.setCell ⟨w.heap.size + 1, 0, none⟩ u0).setCell ⟨w.heap.size + 1, 1, none⟩ u1).setCell ⟨w.heap.size + 1, 2, none⟩ u2)) := fun u0 u1 u2 => ((HBL2.out.setCell (by simp only; omega) _).setCell (by simp only; omega) _).setCell (by simp only; omega) _
        obtain ⟨⟨tv, tx, tp⟩, hcA⟩ : ∃ T, climbA m (fn : Int) = T := ⟨_, rfl⟩
        rw [hcA] at HQ HR2 ⊢
        have r0 := blk9 HB2.out 0 _ rfl
        have r1 := blk9 HB2.out 1 _ rfl
        have r2 := blk9 HB2.out 2 _ rfl
        have z0 := frz9 HB2.out 0
        have z1 := frz9 HB2.out 1
        have z2 := frz9 HB2.out 2
        clear hq hfr hcA q0 q1 q2 q3 hCn hs hr hmb
        go_wp2
        refine bodyPost_ret (by simp [results, Tryz.results9, go_sem, *]; try rfl) rfl ?_
        rw [← HR2.out]
        exact ⟨_, _, rfl, HQ.out _ _ _, HBE2.out _ _ _⟩
    · have hR := HR1.out
      rw [if_neg he] at hR
      have HN : Hid ((noAns, er) = R) := hR
      have he' : (er != 0) = true := by simpa using he
      clear hR HR1 he
      go_wp2
      refine bodyPost_ret (by simp [results, Tryz.results9, go_sem, *]; try rfl) rfl ?_
      rw [← HN.out]
      exact ⟨_, _, rfl, ansq_no _ _ _, HBE.out _ _ _⟩
end Go.Proofs.YtdjbejlbmaiocagGreatDoor
/-
  PLAIN: the constraint of two(), and its scope.
-/
namespace Go.Proofs.YtdjbejlbmaiocagGreatDoor

def twoC : MCon := ⟨1, [0, 1], [1, -1], -1, [], []⟩
theorem sort_01 : sortI [0, 1] = [0, 1] := by
  unfold sortI
  exact List.mergeSort_of_pairwise (by decide)
theorem two_scopeC : scopeC twoC = [0, 1] := by
  have h1 : scopeL twoC = [0, 1] := by rfl
  unfold scopeC
  rw [h1, sort_01]
  decide
end Go.Proofs.YtdjbejlbmaiocagGreatDoor
/-
  PLAIN: the points of two()'s constraint.
-/
namespace Go.Proofs.YtdjbejlbmaiocagGreatDoor

def twoP : List Nat := [129, 257, 258]
theorem two_points : pointsP twoM.vars twoC = twoP := by
  unfold pointsP
  rw [two_scopeC]
  decide +kernel
theorem two_con0 : twoM.cons.getD (0 : Int).toNat noCon = twoC := rfl
end Go.Proofs.YtdjbejlbmaiocagGreatDoor
/-
  PLAIN: what is best of two()'s model.
-/
namespace Go.Proofs.YtdjbejlbmaiocagGreatDoor

theorem ptsM_two9 : ptsM twoM = [twoP] := by
  show [pointsP twoM.vars twoC] = _
  rw [two_points]
theorem bst_s : bestA twoM 20 = (climbA twoM 20, 0) := by
  unfold bestA
  rw [if_neg (by decide), if_pos two_checks, if_neg (by decide)]
def R1 : Int × List Int × Sk := nextP twoM.vars [twoP] (startSk 20)
theorem bst_R1 : solveR twoM 20 = R1 := by unfold solveR R1; rw [ptsM_two9]
theorem bst_1 : R1 = (1, [0, 1], ⟨[], 20, [], [⟨0, 4, 0⟩, ⟨1, 4, 1⟩]⟩) := by kernel_rfl
def S2 : Sk := ⟨[heldP twoM.vars [⟨1, 1, 0⟩]], 20, [], [⟨0, 4, 0⟩, ⟨1, 4, 1⟩]⟩
theorem bst_S2 : moreSk twoM R1 = S2 := by rw [bst_1]; kernel_rfl
def R2 : Int × List Int × Sk := nextP twoM.vars [twoP] S2
theorem bst_2 : R2.1 = 2 := by kernel_rfl
theorem bst_3 : decide (0 < R2.2.2.proof.length) = true := by kernel_rfl
theorem bst_c : climbA twoM 20 = ⟨1, [0, 1], R2.2.2.proof⟩ := by
  unfold climbA
  have h1 : R1.1 = 1 := by rw [bst_1]
  have hs : (solveR twoM 20).1 = 1 → Sol twoM (solveR twoM 20).2.1 := fun h => (next_found twoM two_checks _ h).1
  rw [climb_step twoM two_checks (Or.inl rfl) _ _ hs, bst_R1, if_pos h1, bst_S2, ptsM_two9]
  have h2 : R2.1 = 1 → Sol twoM R2.2.1 := fun h => by rw [bst_2] at h; cases h
  show climbP twoM R2 R1.2.1 = _
  rw [climb_step twoM two_checks (Or.inl rfl) _ _ h2, if_neg (by rw [bst_2]; decide), if_neg (by rw [bst_2]; decide), bst_1]
  rfl
theorem bst_b : betterA twoM [0, 2] = ([⟨1, 1, 1⟩], 0) := by
  unfold betterA
  rw [if_pos two_checks]
  kernel_rfl
theorem bst_all : ∃ P, bestA twoM 20 = (⟨1, [0, 1], P⟩, 0) ∧ 0 < P.length := ⟨R2.2.2.proof, by rw [bst_s, bst_c], of_decide_eq_true bst_3⟩
end Go.Proofs.YtdjbejlbmaiocagGreatDoor
/-
  WALK: the reference's SameInts.
-/
namespace Go.Proofs.YtdjbejlbmaiocagGreatDoor
open Go.RowKit

theorem take_same {α : Type} (a b : List α) (m : Nat) (x : α) (h : a.take m = b.take m) (ha : a[m]? = some x) (hb : b[m]? = some x) : a.take (m + 1) = b.take (m + 1) := by
  rw [List.take_add_one, List.take_add_one, h, ha, hb]
theorem same_end {α : Type} (a b : List α) (m : Nat) (h : a.take m = b.take m) (ha : ¬ m < a.length) (hl : a.length = b.length) : a = b := by
  rwa [List.take_of_length_le (by omega), List.take_of_length_le (by omega)] at h
theorem not_same {α : Type} (a b : List α) (m : Nat) (x y : α) (ha : a[m]? = some x) (hb : b[m]? = some y) (h : x ≠ y) : a ≠ b := by
  intro e; subst e; rw [ha] at hb; cases hb; exact h rfl

set_option maxHeartbeats 800000 in
set_option maxRecDepth 100000 in
theorem sameints_any (l k : List Int) (v u : Value) (w : World) (hv : IArg w v l) (hu : IArg w u k) :
    Calls Tryz.prog 37 #[v, u] w fun e w' => e = .returned (.bool (decide (l = k))) ∧ ∃ n, w' = w.drewN n := by
  obtain ⟨a, c, rfl, hm, hr⟩ := hv
  obtain ⟨a', c', rfl, hm', hr'⟩ := hu
  have HV : Hid (∀ (i : Nat) (z : Int), l[i]? = some z → ∃ b off, a = some ⟨b, off, none⟩ ∧ b < w.heap.size ∧ w.cell? ⟨b, off + i, none⟩ = some (.int .i64 z)) := hr
  have HV' : Hid (∀ (i : Nat) (z : Int), k[i]? = some z → ∃ b off, a' = some ⟨b, off, none⟩ ∧ b < w.heap.size ∧ w.cell? ⟨b, off + i, none⟩ = some (.int .i64 z)) := hr'
  obtain ⟨R, hR⟩ : ∃ R, decide (l = k) = R := ⟨_, rfl⟩
  rw [hR]
  have HR : Hid (decide (l = k) = R) := hR
  unfold maxLen at hm hm'
  obtain ⟨hm1, hm⟩ := hm
  obtain ⟨hm1', hm'⟩ := hm'
  clear hr hr' hR
  by_cases hl : l.length = k.length
  · have HL : Hid (l.length = k.length) := hl
    have g0 : ((l.length : Int) != (k.length : Int)) = false := by simp [hl]
    clear hl
    go_enter Tryz.func37, Tryz.ntmps37
    go_wp2_with fail
    go_loopw [5] (fun i wr => ∃ m : Nat, m ≤ l.length ∧ i = .int .i64 m ∧ Hid (l.take m = k.take m) ∧ ∃ n, wr = w.drewN n) (fun i _ => l.length - (intOf i).toNat)
    case atStart => exact ⟨0, by omega, rfl, rfl, 0, rfl⟩
    case round =>
      obtain ⟨m, hml, rfl, hall, nq, rfl⟩ := hrel
      by_cases hlt : m < l.length
      · have hlt' : m < k.length := by rw [← HL.out]; exact hlt
        obtain ⟨x, hx⟩ : ∃ x, l[m]? = some x := ⟨l[m], by simp [hlt]⟩
        obtain ⟨y, hy⟩ : ∃ y, k[m]? = some y := ⟨k[m], by simp [hlt']⟩
        obtain ⟨b, off, ha, hb, hc⟩ := HV.out m x hx
        obtain ⟨b', off', ha', hb', hd⟩ := HV'.out m y hy
        have HX : Hid (l[m]? = some x) := hx
        have HY : Hid (k[m]? = some y) := hy
        subst ha; subst ha'
        clear hx hy
        by_cases hq : x = y
        · subst hq
          have HN : Hid (l.take (m + 1) = k.take (m + 1)) := take_same l k m x hall.out HX.out HY.out
          go_wp2
          go_quiet (fail)
          go_wp2
          go_roundw
          case rel => exact ⟨m + 1, by omega, by go_num, HN, _, rfl⟩
          case measure => simp [intOf]; omega
        · have HN : Hid (R = false) := by rw [← HR.out]; exact decide_eq_false (not_same l k m x y HX.out HY.out hq)
          have hq2 : (x != y) = true := by simpa using hq
          clear hq
          go_wp2
          go_quiet (fail)
          go_wp2
          go_ret
          exact ⟨ret_bool HN.out.symm, _, drewN_drewN _ _ _⟩
      · have HN : Hid (R = true) := by rw [← HR.out]; exact decide_eq_true (same_end l k m hall.out hlt HL.out)
        go_wp2
        go_ret
        exact ⟨ret_bool HN.out.symm, _, rfl⟩
  · have HN : Hid (R = false) := by rw [← HR.out]; exact decide_eq_false (fun h => hl (by rw [h]))
    have g0 : ((l.length : Int) != (k.length : Int)) = true := by simp; omega
    clear hl
    go_enter Tryz.func37, Tryz.ntmps37
    go_wp2
    go_ret
    exact ⟨ret_bool HN.out.symm, 0, rfl⟩

end Go.Proofs.YtdjbejlbmaiocagGreatDoor
/-
  WALK: the reference's SameClause, where both are the same.
-/
namespace Go.Proofs.YtdjbejlbmaiocagGreatDoor
open Go.RowKit

theorem LArg.nth {w : World} {a : Option Addr} {n c : Nat} {l : List MLit} (h : LArg w (.slice a n c) l) (i : Nat) (t : MLit) (hr : l[i]? = some t) : ∃ b off, a = some ⟨b, off, none⟩ ∧ b < w.heap.size ∧
    w.cell? ⟨b, off + i * 3, none⟩ = some (.int .i64 t.var) ∧ w.cell? ⟨b, off + i * 3 + 1, none⟩ = some (.int .i64 t.op) ∧ w.cell? ⟨b, off + i * 3 + 2, none⟩ = some (.int .i64 t.n) := by
  obtain ⟨a', c', hv, _, hh⟩ := h
  cases hv
  exact hh i t hr
set_option maxHeartbeats 1600000 in
set_option maxRecDepth 100000 in
theorem sameclause_eq (s : List MLit) (v u : Value) (w : World) (hv : LArg w v s) (hu : LArg w u s) :
    Calls Tryz.prog 48 #[v, u] w fun e w' => e = .returned (.bool true) ∧ ∃ n, w' = w.drewN n := by
  have HA : Hid (LArg w v s) := hv
  have HA' : Hid (LArg w u s) := hu
  obtain ⟨a, c, rfl, hm, _⟩ := hv
  obtain ⟨a', c', rfl, hm', _⟩ := hu
  unfold maxLen at hm hm'
  obtain ⟨hm1, hm⟩ := hm
  obtain ⟨hm1', hm'⟩ := hm'
  have g0 : ((s.length : Int) != (s.length : Int)) = false := by simp
  go_enter Tryz.func48, Tryz.ntmps48
  go_wp2_with fail
  go_loopw [5] (fun i wr => ∃ m : Nat, m ≤ s.length ∧ i = .int .i64 m ∧ ∃ n, wr = w.drewN n) (fun i _ => s.length - (intOf i).toNat)
  case atStart => exact ⟨0, by omega, rfl, 0, rfl⟩
  case round =>
    obtain ⟨m, hml, rfl, nq, rfl⟩ := hrel
    by_cases hlt : m < s.length
    · obtain ⟨x, hx⟩ : ∃ x, s[m]? = some x := ⟨s[m], by simp [hlt]⟩
      obtain ⟨b, off, rfl, hb, h0, h1, h2⟩ := LArg.nth HA.out m x hx
      obtain ⟨b', off', rfl, hb', h0', h1', h2'⟩ := LArg.nth HA'.out m x hx
      clear hx
      go_wp2
      go_quiet (fail)
      go_wp2
      go_roundw
      case rel => exact ⟨m + 1, by omega, by go_num, _, rfl⟩
      case measure => simp [intOf]; omega
    · go_wp2
      go_ret
      exact ⟨rfl, _, rfl⟩
end Go.Proofs.YtdjbejlbmaiocagGreatDoor
/-
  WALK: what must be in any case, of the best (bestBegun of the laws).
-/
namespace Go.Proofs.YtdjbejlbmaiocagGreatDoor
open Go.RowKit

theorem lit_made9 (w : World) (v o n : Int) (B : Nat) (hB : B = w.heap.size) : LArg (w.alloc (.cells #[.int .i64 v, .int .i64 o, .int .i64 n] 88)) (.slice (some ⟨B, 0, none⟩) 1 1) [⟨v, o, n⟩] := by
  subst hB
  refine ⟨_, 1, rfl, ⟨by simp, by unfold maxLen; omega⟩, fun i t ht => ?_⟩
  match i, ht with
  | 0, ht =>
    cases ht
    exact ⟨_, 0, rfl, by simp, World.cell?_alloc_at _ _ _ 0 (by simp), World.cell?_alloc_at _ _ _ 1 (by simp), World.cell?_alloc_at _ _ _ 2 (by simp)⟩
theorem ints_made9 (w : World) (a b : Int) (B : Nat) (hB : B = w.heap.size) : IArg (w.alloc (.cells #[.int .i64 a, .int .i64 b] 3)) (.slice (some ⟨B, 0, none⟩) 2 2) [a, b] := by
  subst hB
  refine ⟨_, 2, rfl, ⟨by simp, by unfold maxLen; omega⟩, fun i z hz => ?_⟩
  match i, hz with
  | 0, hz =>
    cases hz
    exact ⟨_, 0, rfl, by simp, World.cell?_alloc_at _ _ _ 0 (by simp)⟩
  | 1, hz =>
    cases hz
    exact ⟨_, 0, rfl, by simp, World.cell?_alloc_at _ _ _ 1 (by simp)⟩
theorem drawn_b9 {w w' : World} (h : ∃ n, w' = w.drewN n) : Below w.heap.size w w' := by
  obtain ⟨n, rfl⟩ := h
  exact ⟨rfl, rfl, rfl, Nat.le_refl _, fun _ _ => rfl⟩

set_option maxHeartbeats 3200000 in
set_option maxRecDepth 100000 in
theorem begun_best (w : World) (hT : TabT w) :
    Calls Tryz.prog 11 #[] w fun e w' => e = .returned (.bool true) ∧ Below w.heap.size w w' := by
  have HT : Hid (∀ w', Below w.heap.size w w' → TabT w') := fun w' h => hT.below h
  obtain ⟨P, hP, hPl⟩ := bst_all
  have HP : Hid (bestA twoM 20 = (⟨1, [0, 1], P⟩, 0)) := hP
  clear hT hP
  go_enter Tryz.func11, Tryz.ntmps11
  go_wp2_with fail
  refine (two_any _).mono ?_
  rintro e w1 ⟨vs, cs, rfl, hm, hb1⟩
  have HM : Hid (MArg w1 vs cs twoM) := hm
  have HA1 : Hid (Below w.heap.size w w1) := hb1
  clear hm hb1
  go_wp2_with fail
  refine (bbetter_any twoM [0, 2] vs cs _ _ (MArg.below (below_alloc _ _) HM.out) (ints_made9 w1 0 2 _ rfl)).mono ?_
  rintro e w2 ⟨x, rfl, hx, hb2⟩
  rw [bst_b] at hx ⊢
  dsimp only at hx ⊢
  have HX : Hid (∀ Y, Below w2.heap.size w2 Y → LArg Y x [⟨1, 1, 1⟩]) := fun Y hY => LArg.below hY hx.arg
  have HA2 : Hid (Below w.heap.size w w2) := (HA1.out.alloc HA1.out.size _).trans (hb2.mono (by have := HA1.out.size; simp; omega))
  obtain ⟨ax, cx, hxe⟩ := own_form (show w2.ownsRow _ _ _ _ _ _ from hx)
  subst hxe
  clear hx hb2 HM
  go_wp2_with fail
  refine (two_any _).mono ?_
  rintro e w3 ⟨vs, cs, rfl, hm, hb3⟩
  have HM : Hid (MArg w3 vs cs twoM) := hm
  have HX3 : Hid (Below w2.heap.size w2 w3) := hb3
  have HA3 : Hid (Below w.heap.size w w3) := HA2.out.trans (hb3.mono HA2.out.size)
  clear hm hb3
  go_wp2_with fail
  refine (best_any twoM 20 vs cs _ HM.out (HT.out _ HA3.out)).mono ?_
  rintro e w4 ⟨vv, pp, rfl, hq, hb4⟩
  rw [HP.out] at hq ⊢
  dsimp only at hq ⊢
  obtain ⟨L, hst, hLe⟩ := hq.prf
  simp only at hLe
  have hLl : 0 < L.length := by have := congrArg List.length hLe; rw [List.length_map] at this; omega
  obtain ⟨av, cv, rfl⟩ := own_form hq.val
  obtain ⟨ap, cp, rfl⟩ := own_form hst.1
  have HV : Hid (∀ Y, Below w4.heap.size w4 Y → IArg Y (.slice av [0, 1].length cv) [0, 1]) := fun Y hY => IArg.below hY (own_ilist hq.val)
  have HX4 : Hid (Below w2.heap.size w2 w4) := HX3.out.trans (hb4.mono HX3.out.size)
  have HA4 : Hid (Below w.heap.size w w4) := HA3.out.trans (hb4.mono HA3.out.size)
  have hLl2 : (0 : Int) < (L.length : Int) := by omega
  have hLl3 : ¬ L = [] := fun h => by rw [h] at hLl; cases hLl
  clear hq hb4 hst hLe HM HP hPl
  go_wp2_with fail
  have hb5 : Below w4.heap.size w4 (w4.alloc (.cells #[.int .i64 1, .slice av 2 cv, .slice ap L.length cp] 29)) := below_alloc _ _
  have hbl5 := heap_alloc_new w4 (.cells #[.int .i64 1, .slice av 2 cv, .slice ap L.length cp] 29)
  obtain ⟨W5, hW5⟩ : ∃ W5, w4.alloc (.cells #[.int .i64 1, .slice av 2 cv, .slice ap L.length cp] 29) = W5 := ⟨_, rfl⟩
  have hsz5 : W5.heap.size = w4.heap.size + 1 := by rw [← hW5]; simp
  rw [hW5] at hb5 hbl5 ⊢
  refine (sameclause_eq [⟨1, 1, 1⟩] _ _ _ (HX.out _ ((HX4.out.trans (hb5.mono HX4.out.size)).alloc (by have := HX4.out.size; omega) _)) (lit_made9 W5 1 1 1 _ hsz5.symm)).mono ?_
  rintro e w6 ⟨rfl, hd6⟩
  have hB6 : Below W5.heap.size W5 w6 := (below_alloc _ _).trans ((drawn_b9 hd6).mono (by simp))
  have HBL6 : Hid (w6.heap[w4.heap.size]? = some (.cells #[.int .i64 1, .slice av 2 cv, .slice ap L.length cp] 29)) := (hB6.block _ (by omega)).trans hbl5
  have HB6 : Hid (Below w4.heap.size w4 w6) := hb5.trans (hB6.mono (by omega))
  have k0 := blk9 HBL6.out 0 _ rfl
  have k1 := blk9 HBL6.out 1 _ rfl
  have k2 := blk9 HBL6.out 2 _ rfl
  have kl := (Array.getElem?_eq_some_iff.1 HBL6.out).1
  clear hd6 hB6 hsz5 hW5 hb5 hbl5
  go_wp2_with fail
  refine (sameints_any [0, 1] [0, 1] _ _ _ (HV.out _ (HB6.out.alloc HB6.out.size _)) (ints_made9 w6 0 1 _ rfl)).mono ?_
  rintro e w7 ⟨rfl, hd7⟩
  have hB7 : Below w6.heap.size w6 w7 := (below_alloc _ _).trans ((drawn_b9 hd7).mono (by simp))
  have j2 := (hB7.cell (p := ⟨w4.heap.size, 2, none⟩) kl).trans k2
  have jl : w4.heap.size < w7.heap.size := Nat.lt_of_lt_of_le kl hB7.size
  have HB7 : Hid (Below w.heap.size w w7) := HA4.out.trans ((HB6.out.trans (hB7.mono HB6.out.size)).mono HA4.out.size)
  rw [show (decide (([0, 1] : List Int) = [0, 1])) = true from rfl]
  clear hd7 hB7 k0 k1 k2
  go_wp2
  go_ret
  exact ⟨rfl, HB7.out⟩
end Go.Proofs.YtdjbejlbmaiocagGreatDoor
