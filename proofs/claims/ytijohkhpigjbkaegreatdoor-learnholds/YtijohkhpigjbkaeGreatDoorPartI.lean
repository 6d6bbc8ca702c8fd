/-
  PART 9 of what the proof leans on (NarA, NarB, ClaA, FixD, LeaD, ModQ2, ModR, ModU, StoF, RefA, StoG, ClaB, LeaE, OpnA, OpnB).
-/
import Derived.Test.YtijohkhpigjbkaeGreatDoorPartH
import Derived.Deep.RegionHeld3
import Derived.Laws.EntriesVeiled
/-
  WALKS: package narrow: the closures of Unit.
-/
namespace Go.Proofs.YtijohkhpigjbkaeGreatDoor
open Go.RowKit

set_option maxHeartbeats 400000 in
set_option maxRecDepth 100000 in
theorem live_in (l : MLit) (z : Int) (b : Nat) (w : World) (h0 : w.cell? ⟨b, 0, none⟩ = some (.int .i64 l.var)) (h1 : w.cell? ⟨b, 1, none⟩ = some (.int .i64 l.op)) (h2 : w.cell? ⟨b, 2, none⟩ = some (.int .i64 l.n)) :
    Calls Tryz.prog 171 #[.int .i64 z, .pointer (some ⟨b, 0, none⟩)] w fun e w' => e = .returned (.bool (litV z l)) ∧ Below w.heap.size w w' := by
  go_enter Tryz.func171, Tryz.ntmps171
  go_wp2_with fail
  refine (lit_true l z _).mono ?_
  rintro e w1 ⟨rfl, hb1⟩
  go_wp2
  go_ret
  exact ⟨rfl, hb1⟩
theorem enters_livein (args : Array Value) (w' : World) : Sem.run Tryz.prog (callFunc 171 args) w' = .ok (.enter 171 args) w' := by
  simp [callFunc, go_sem, Tryz.func171, Tryz.f171]

set_option maxHeartbeats 800000 in
set_option maxRecDepth 100000 in
theorem live_any (s : Sto) (l : MLit) (v : Value) (b : Nat) (w : World) (hv : RArg w v s) (hb : w.cell? ⟨b, 0, none⟩ = some v) (h0 : 0 ≤ l.var) (h1 : l.var < (s.length : Int)) :
    Calls Tryz.prog 169 #[.agg #[.int .i64 l.var, .int .i64 l.op, .int .i64 l.n], .pointer (some ⟨b, 0, none⟩)] w fun e w' => e = .returned (.bool (liveB s l)) ∧ Below w.heap.size w w' := by
  obtain ⟨a, c, rfl, hm, hr⟩ := hv
  obtain ⟨j, hj⟩ : ∃ j : Nat, l.var = (j : Int) := ⟨l.var.toNat, by omega⟩
  have hjl : j < s.length := by omega
  obtain ⟨r, hrr⟩ : ∃ r, s[j]? = some r := ⟨s[j], by simp [hjl]⟩
  obtain ⟨b9, off9, x, rfl, hb9, g9, hx⟩ := hr j r hrr
  have HX : Hid (IArg w x r) := hx
  obtain ⟨a5, c5, rfl, _, _⟩ := hx
  have HRO : Hid (liveB s l = r.any fun z => litV z l) := by
    show _ = _
    unfold liveB rowOf
    rw [hj, Int.toNat_natCast, List.getD_eq_getElem?_getD, hrr]; rfl
  rw [HRO.out]
  have HJ : Hid (l.var = (j : Int)) := hj
  rw [hj]
  have hbl : b < w.heap.size := World.block_lt_of_cell? w _ hb
  unfold maxLen at hm
  obtain ⟨hm1, hm⟩ := hm
  clear hr hrr hj HRO h0 h1
  go_enter Tryz.func169, Tryz.ntmps169
  go_wp2_with fail
  refine (containsf_ints 171 _ (fun z => litV z l) r _ _ (IArg.below (below_alloc _ _) HX.out) ⟨enters_livein, ?_⟩).mono ?_
  · intro z w' hb'
    refine live_in l z w.heap.size w' ?_ ?_ ?_
    · rw [HJ.out]; exact (hb'.cell (by simp)).trans (World.cell?_alloc_at _ _ _ 0 (by simp))
    · exact (hb'.cell (by simp)).trans (World.cell?_alloc_at _ _ _ 1 (by simp))
    · exact (hb'.cell (by simp)).trans (World.cell?_alloc_at _ _ _ 2 (by simp))
  rintro e w1 ⟨rfl, hb1⟩
  have hb2 : Below w.heap.size w w1 := (below_alloc _ _).trans (hb1.mono (by simp))
  clear hb1
  go_wp2
  go_ret
  exact ⟨rfl, hb2⟩
theorem enters_live (args : Array Value) (w' : World) : Sem.run Tryz.prog (callFunc 169 args) w' = .ok (.enter 169 args) w' := by
  simp [callFunc, go_sem, Tryz.func169, Tryz.f169]

set_option maxHeartbeats 800000 in
set_option maxRecDepth 100000 in
theorem other_any (s : Sto) (l : MLit) (x : Int) (v : Value) (bs bv bo : Nat) (w : World) (hv : RArg w v s) (hb : w.cell? ⟨bs, 0, none⟩ = some v) (h1 : w.cell? ⟨bv, 0, none⟩ = some (.int .i64 x))
    (h2 : w.cell? ⟨bo, 0, none⟩ = some (.func (.func 169) #[] #[.pointer (some ⟨bs, 0, none⟩)])) (h3 : 0 ≤ l.var) (h4 : l.var < (s.length : Int)) :
    Calls Tryz.prog 174 #[.agg #[.int .i64 l.var, .int .i64 l.op, .int .i64 l.n], .pointer (some ⟨bv, 0, none⟩), .pointer (some ⟨bo, 0, none⟩)] w fun e w' => e = .returned (.bool (!decide (l.var = x) && liveB s l)) ∧ Below w.heap.size w w' := by
  have HVA : Hid (∀ w' : World, Below w.heap.size w w' → RArg w' v s) := fun w' h => RArg.below h hv
  have HB : Hid (w.cell? ⟨bs, 0, none⟩ = some v) := hb
  have lb : bs < w.heap.size := World.block_lt_of_cell? w _ hb
  have l1 : bv < w.heap.size := World.block_lt_of_cell? w _ h1
  have l2 : bo < w.heap.size := World.block_lt_of_cell? w _ h2
  clear hb hv
  by_cases hq : l.var = x
  · have g0 : (l.var != x) = false := by simpa using hq
    have HN : Hid ((!decide (l.var = x) && liveB s l) = false) := by show _ = _; rw [decide_eq_true hq]; rfl
    rw [HN.out]
    clear hq
    go_enter Tryz.func174, Tryz.ntmps174
    go_wp2
    go_ret
    exact ⟨rfl, below_alloc _ _⟩
  · have g0 : (l.var != x) = true := by simpa using hq
    have HN : Hid ((!decide (l.var = x) && liveB s l) = liveB s l) := by show _ = _; rw [decide_eq_false hq]; rfl
    rw [HN.out]
    clear hq
    go_enter Tryz.func174, Tryz.ntmps174
    go_wp2_with fail
    refine (live_any s l _ bs _ (HVA.out _ (below_alloc _ _)) ((World.cell?_alloc_past _ _ _ lb).trans HB.out) h3 h4).mono ?_
    rintro e w1 ⟨rfl, hb1⟩
    have hb2 : Below w.heap.size w w1 := (below_alloc _ _).trans (hb1.mono (by simp))
    clear hb1
    go_wp2
    go_ret
    exact ⟨rfl, hb2⟩
theorem enters_other (args : Array Value) (w' : World) : Sem.run Tryz.prog (callFunc 174 args) w' = .ok (.enter 174 args) w' := by
  simp [callFunc, go_sem, Tryz.func174, Tryz.f174]

set_option maxHeartbeats 400000 in
set_option maxRecDepth 100000 in
theorem goes_any (c : Cla) (k : Nat) (z : Int) (u : Value) (bc bv : Nat) (w : World) (hu : LArg w u c) (h1 : w.cell? ⟨bc, 0, none⟩ = some u) (h2 : w.cell? ⟨bv, 0, none⟩ = some (.int .i64 (k : Int))) :
    Calls Tryz.prog 175 #[.int .i64 z, .pointer (some ⟨bc, 0, none⟩), .pointer (some ⟨bv, 0, none⟩)] w fun e w' => e = .returned (.bool (!oneB c k z)) ∧ Below w.heap.size w w' := by
  have HU : Hid (LArg w u c) := hu
  obtain ⟨a, cc, rfl, _, _⟩ := hu
  go_enter Tryz.func175, Tryz.ntmps175
  go_wp2_with fail
  refine (one_of c k z _ _ HU.out).mono ?_
  rintro e w1 ⟨rfl, hb1⟩
  go_wp2
  go_ret
  exact ⟨rfl, hb1⟩
theorem enters_goes (args : Array Value) (w' : World) : Sem.run Tryz.prog (callFunc 175 args) w' = .ok (.enter 175 args) w' := by
  simp [callFunc, go_sem, Tryz.func175, Tryz.f175]

set_option maxHeartbeats 800000 in
set_option maxRecDepth 100000 in
theorem left_any (c : Cla) (j k : Nat) (z : Int) (u : Value) (bc bv bg : Nat) (w : World) (hu : LArg w u c) (h1 : w.cell? ⟨bc, 0, none⟩ = some u) (h2 : w.cell? ⟨bv, 0, none⟩ = some (.int .i64 (j : Int)))
    (h3 : w.cell? ⟨bg, 0, none⟩ = some (.func (.func 175) #[] #[.pointer (some ⟨bc, 0, none⟩), .pointer (some ⟨bv, 0, none⟩)])) :
    Calls Tryz.prog 176 #[.int .i64 (k : Int), .int .i64 z, .pointer (some ⟨bv, 0, none⟩), .pointer (some ⟨bg, 0, none⟩)] w fun e w' => e = .returned (.bool (decide ((k : Int) ≠ (j : Int)) || oneB c k z)) ∧ Below w.heap.size w w' := by
  by_cases hq : (k : Int) = (j : Int)
  · have g0 : ((k : Int) != (j : Int)) = false := by simpa using hq
    have hkj : k = j := by omega
    have HN : Hid ((decide ((k : Int) ≠ (j : Int)) || oneB c k z) = oneB c j z) := by show _ = _; rw [hkj]; simp
    have HG : Hid (Calls Tryz.prog 175 #[.int .i64 z, .pointer (some ⟨bc, 0, none⟩), .pointer (some ⟨bv, 0, none⟩)] w fun e w' => e = .returned (.bool (!oneB c j z)) ∧ Below w.heap.size w w') := goes_any c j z u bc bv w hu h1 h2
    rw [HN.out]
    obtain ⟨B, hB⟩ : ∃ B, oneB c j z = B := ⟨_, rfl⟩
    rw [hB] at HG ⊢
    clear hq hkj hu h1 hB HN
    go_enter Tryz.func176, Tryz.ntmps176
    go_wp2_with fail
    refine HG.out.mono ?_
    rintro e w1 ⟨rfl, hb1⟩
    go_wp2
    go_ret
    exact ⟨by cases B <;> rfl, hb1⟩
  · have g0 : ((k : Int) != (j : Int)) = true := by simpa using hq
    have HN : Hid ((decide ((k : Int) ≠ (j : Int)) || oneB c k z) = true) := by show _ = _; rw [decide_eq_true hq]; rfl
    rw [HN.out]
    clear hq hu h1 h3
    go_enter Tryz.func176, Tryz.ntmps176
    go_wp2
    go_ret
    exact ⟨rfl, Below.refl _ _⟩
theorem enters_left (args : Array Value) (w' : World) : Sem.run Tryz.prog (callFunc 176 args) w' = .ok (.enter 176 args) w' := by
  simp [callFunc, go_sem, Tryz.func176, Tryz.f176]
end Go.Proofs.YtijohkhpigjbkaeGreatDoor
/-
  WALK: package narrow: Unit.
-/
namespace Go.Proofs.YtijohkhpigjbkaeGreatDoor
open Go.RowKit

theorem nb2 (w : World) (o1 o2 : Obj) : Below w.heap.size w ((w.alloc o1).alloc o2) := (below_alloc _ _).alloc (by simp) _
theorem nb3 (w : World) (o1 o2 o3 : Obj) : Below w.heap.size w (((w.alloc o1).alloc o2).alloc o3) := ((below_alloc _ _).alloc (by simp) _).alloc (by simp; omega) _
theorem held_call {w2 Y w3 : World} {A : Prop} (h : Below w2.heap.size w2 Y ∧ A) (hb : Below Y.heap.size Y w3) : Below w2.heap.size w2 w3 := h.1.trans (hb.mono h.1.size)

set_option maxHeartbeats 1600000 in
set_option maxRecDepth 100000 in
theorem unit_any (s : Sto) (c : Cla) (v u : Value) (w : World) (hv : RArg w v s) (hu : LArg w u c) (hc : ClaIn s c) (hn : s.length ≤ 6) (hr6 : ∀ r ∈ s, r.length ≤ 6) :
    Calls Tryz.prog 117 #[v, u] w fun e w' => ∃ x, e = .returned x ∧ RArg w' x (unitS s c) ∧ Below w.heap.size w w' := by
  have HVA : Hid (∀ w' : World, Below w.heap.size w w' → RArg w' v s) := fun w' h => RArg.below h hv
  have HUA : Hid (∀ w' : World, Below w.heap.size w w' → LArg w' u c) := fun w' h => LArg.below h hu
  have HC : Hid (∀ l ∈ c, 0 ≤ l.var ∧ l.var < (s.length : Int)) := hc
  have HR6 : Hid (∀ r ∈ s, r.length ≤ 6) := hr6
  obtain ⟨a1, c1, rfl, hm1, _⟩ := hv
  obtain ⟨a2, c2, rfl, hm2, _⟩ := hu
  unfold maxLen at hm1 hm2
  obtain ⟨hm11, hm1⟩ := hm1
  obtain ⟨hm21, hm2⟩ := hm2
  obtain ⟨F, hF⟩ : ∃ F, failedS s = F := ⟨_, rfl⟩
  have HF : Hid (failedS s = F) := hF
  clear hc hr6 hF
  go_enter Tryz.func117, Tryz.ntmps117
  go_wp2_with fail
  refine (sift_failed s _ _ (HVA.out _ (nb2 _ _ _))).mono ?_
  rintro e w0 ⟨rfl, rfl⟩
  rw [HF.out]
  cases F
  · go_wp2_with fail
    refine (indexf_lits 169 _ (liveB s) c _ _ (HUA.out _ (nb3 _ _ _ _)) ⟨enters_live, ?_⟩).mono ?_
    · intro l w' hl hb'
      exact live_any s l _ w.heap.size w' (HVA.out _ ((nb3 _ _ _ _).trans (hb'.mono (by simp; omega)))) ((hb'.cell (by simp; omega)).trans ((World.cell?_alloc_past _ _ _ (by simp; omega)).trans ((World.cell?_alloc_past _ _ _ (by simp)).trans (World.cell?_alloc_at _ _ _ 0 (by simp))))) (HC.out l hl).1 (HC.out l hl).2
    rintro e w1 ⟨⟨z, rfl, hz⟩, hb1⟩
    have d0 : w1.cell? ⟨w.heap.size, 0, none⟩ = some (.slice a1 s.length c1) := (hb1.cell (by simp; omega)).trans ((World.cell?_alloc_past _ _ _ (by simp; omega)).trans ((World.cell?_alloc_past _ _ _ (by simp)).trans (World.cell?_alloc_at _ _ _ 0 (by simp))))
    have d1 : w1.cell? ⟨w.heap.size + 1, 0, none⟩ = some (.slice a2 c.length c2) := (hb1.cell (by simp)).trans ((World.cell?_alloc_past _ _ _ (by simp)).trans (World.cell?_alloc_at _ _ _ 0 (by simp)))
    have d2 : w1.cell? ⟨w.heap.size + 2, 0, none⟩ = some (.func (.func 169) #[] #[.pointer (some ⟨w.heap.size, 0, none⟩)]) := (hb1.cell (by simp)).trans (World.cell?_alloc_at _ _ _ 0 (by simp))
    have HB1 : Hid (Below w.heap.size w w1) := (nb3 _ _ _ _).trans (hb1.mono (by simp; omega))
    have hs1 : w.heap.size + 3 ≤ w1.heap.size := by simpa using hb1.size
    clear hb1
    rcases hz with ⟨rfl, hno⟩ | ⟨k, t, rfl, ht, hlt⟩
    · have HU : Hid (unitS s c = clearS s) := by show _ = _; rw [unit_none s c HF.out hno, clear_sift]
      clear hno
      go_wp2_with fail
      refine (none_any s _ _ (HVA.out _ HB1.out) hn).mono ?_
      rintro e w2 ⟨x, rfl, hx, hb2⟩
      have HX : Hid (RArg w2 x (clearS s)) := hx
      obtain ⟨ax, cx, rfl, _, _⟩ := hx
      have hB2 : Below w.heap.size w w2 := HB1.out.trans (hb2.mono HB1.out.size)
      clear hb2
      go_wp2
      go_ret
      rw [HU.out]
      exact ⟨_, rfl, HX.out, hB2⟩
    · have HM : Hid (t ∈ c) := List.mem_of_getElem? ht
      have HLV : Hid (liveB s t = true) := hlt
      have hkl : k < c.length := (List.getElem?_eq_some_iff.1 ht).1
      obtain ⟨a2', c2', hva, _, hrc⟩ := HUA.out _ HB1.out
      obtain ⟨b, off, hax, hb, g0, _, _⟩ := hrc k t ht
      have ha2 : a2 = some ⟨b, off, none⟩ := by cases hva; exact hax
      subst ha2
      obtain ⟨q1, q2⟩ := HC.out t HM.out
      obtain ⟨j, hj⟩ : ∃ j : Nat, t.var = (j : Int) := ⟨t.var.toNat, by omega⟩
      have HJ : Hid (t.var = (j : Int)) := hj
      rw [hj] at g0
      have hjl : j < s.length := by omega
      obtain ⟨r, hr⟩ : ∃ r, s[j]? = some r := ⟨s[j], by simp [hjl]⟩
      have HRR : Hid (s[j]? = some r) := hr
      clear hva hrc hax ht hlt q1 q2 hj hr
      have l0 : w.heap.size < w1.heap.size := by omega
      have l1 : w.heap.size + 1 < w1.heap.size := by omega
      have l2 : w.heap.size + 2 < w1.heap.size := by omega
      go_wp2_with fail
      refine (containsf_lits 174 _ (fun l => !decide (l.var = (j : Int)) && liveB s l) c _ _ (HUA.out _ (HB1.out.alloc HB1.out.size _)) ⟨enters_other, ?_⟩).mono ?_
      · intro l w' hl hb'
        exact other_any s l j _ w.heap.size w1.heap.size (w.heap.size + 2) w' (HVA.out _ ((HB1.out.alloc HB1.out.size _).trans (hb'.mono (by simp; omega)))) ((hb'.cell (by simp; omega)).trans ((World.cell?_alloc_past _ _ _ l0).trans d0)) ((hb'.cell (by simp)).trans (World.cell?_alloc_at _ _ _ 0 (by simp))) ((hb'.cell (by simp; omega)).trans ((World.cell?_alloc_past _ _ _ l2).trans d2)) (HC.out l hl).1 (HC.out l hl).2
      rintro e w2 ⟨rfl, hb2⟩
      have e0 : w2.cell? ⟨w.heap.size, 0, none⟩ = some (.slice a1 s.length c1) := (hb2.cell (by simp; omega)).trans ((World.cell?_alloc_past _ _ _ l0).trans d0)
      have e1 : w2.cell? ⟨w.heap.size + 1, 0, none⟩ = some (.slice (some ⟨b, off, none⟩) c.length c2) := (hb2.cell (by simp; omega)).trans ((World.cell?_alloc_past _ _ _ l1).trans d1)
      have e2 : w2.cell? ⟨w1.heap.size, 0, none⟩ = some (.int .i64 (j : Int)) := (hb2.cell (by simp)).trans (World.cell?_alloc_at _ _ _ 0 (by simp))
      have HB2 : Hid (Below w.heap.size w w2) := (HB1.out.alloc HB1.out.size _).trans (hb2.mono (by simp; omega))
      have hs2 : w1.heap.size + 1 ≤ w2.heap.size := by simpa using hb2.size
      obtain ⟨O, hO⟩ : ∃ O, c.any (fun l => !decide (l.var = (j : Int)) && liveB s l) = O := ⟨_, rfl⟩
      have HO : Hid (c.any (fun l => !decide (l.var = t.var) && liveB s l) = O) := by show _ = _; rw [HJ.out]; exact hO
      rw [hO]
      clear hb2 hO d0 d1 d2 g0
      cases O
      · -- all live ones are of one variable
        obtain ⟨W, hW⟩ : ∃ W : World, W = w2.alloc (.cells #[.func (.func 175) #[] #[.pointer (some ⟨w.heap.size + 1, 0, none⟩), .pointer (some ⟨w1.heap.size, 0, none⟩)]] 161) := ⟨_, rfl⟩
        have HW : Hid (W = w2.alloc (.cells #[.func (.func 175) #[] #[.pointer (some ⟨w.heap.size + 1, 0, none⟩), .pointer (some ⟨w1.heap.size, 0, none⟩)]] 161)) := hW
        have m0 : w.heap.size < w2.heap.size := by omega
        have m1 : w.heap.size + 1 < w2.heap.size := by omega
        have m2 : w1.heap.size < w2.heap.size := by omega
        have HBW : Hid (Below w.heap.size w W) := by rw [hW]; exact HB2.out.alloc HB2.out.size _
        have k0 : W.cell? ⟨w.heap.size, 0, none⟩ = some (.slice a1 s.length c1) := by rw [hW]; exact (World.cell?_alloc_past _ _ _ m0).trans e0
        have k1 : W.cell? ⟨w.heap.size + 1, 0, none⟩ = some (.slice (some ⟨b, off, none⟩) c.length c2) := by rw [hW]; exact (World.cell?_alloc_past _ _ _ m1).trans e1
        have k2 : W.cell? ⟨w1.heap.size, 0, none⟩ = some (.int .i64 (j : Int)) := by rw [hW]; exact (World.cell?_alloc_past _ _ _ m2).trans e2
        have k3 : W.cell? ⟨w2.heap.size, 0, none⟩ = some (.func (.func 175) #[] #[.pointer (some ⟨w.heap.size + 1, 0, none⟩), .pointer (some ⟨w1.heap.size, 0, none⟩)]) := by rw [hW]; simp
        have hsW : W.heap.size = w2.heap.size + 1 := by rw [hW]; simp
        have HSW : Hid (W.heap.size = w2.heap.size + 1) := hsW
        have n0 : w.heap.size < W.heap.size := by omega
        have n1 : w.heap.size + 1 < W.heap.size := by omega
        have n2 : w1.heap.size < W.heap.size := by omega
        have n3 : w2.heap.size < W.heap.size := by omega
        obtain ⟨a1', c1', hva, _, hrc⟩ := HVA.out _ HBW.out
        obtain ⟨b9, off9, x, hax, hb9, g9, hix⟩ := hrc j r HRR.out
        have ha1 : a1 = some ⟨b9, off9, none⟩ := by cases hva; exact hax
        subst ha1
        have HIX : Hid (∀ w' : World, Below W.heap.size W w' → IArg w' x r) := fun w' h => IArg.below h hix
        obtain ⟨a5, c5, rfl, _, _⟩ := hix
        have HGO : Hid (∀ Y : World, Below W.heap.size W Y → Calls Tryz.prog 170 #[.slice a5 r.length c5, .func (.func 175) #[] #[.pointer (some ⟨w.heap.size + 1, 0, none⟩), .pointer (some ⟨w1.heap.size, 0, none⟩)]] Y fun e w' => e = .returned (.bool (r.any fun z => !oneB c j z)) ∧ Below Y.heap.size Y w') := by
          intro Y hY
          refine containsf_ints 175 _ (fun z => !oneB c j z) r _ _ (HIX.out _ hY) ⟨enters_goes, ?_⟩
          intro z w' hb'
          have hB' : Below W.heap.size W w' := hY.trans (hb'.mono hY.size)
          exact goes_any c j z _ (w.heap.size + 1) w1.heap.size w' (HUA.out _ (HBW.out.trans (hB'.mono HBW.out.size))) ((hB'.cell (p := ⟨w.heap.size + 1, 0, none⟩) n1).trans k1) ((hB'.cell (p := ⟨w1.heap.size, 0, none⟩) n2).trans k2)
        obtain ⟨G, hG⟩ : ∃ G, (r.any fun z => !oneB c j z) = G := ⟨_, rfl⟩
        have HG : Hid ((r.any fun z => !oneB c j z) = G) := hG
        rw [hG] at HGO
        clear hW hsW hva hrc hax hG e0 e1 e2 HSW
        go_wp2_with fail
        rw [← HW.out]
        clear HW
        go_region_held3 (fun w' => Below W.heap.size W w' ∧ w'.cell? ⟨w.heap.size, 0, none⟩ = some (.slice (some ⟨b9, off9, none⟩) s.length c1) ∧ w'.cell? ⟨w1.heap.size, 0, none⟩ = some (.int .i64 (j : Int)) ∧ w'.cell? ⟨w2.heap.size, 0, none⟩ = some (.func (.func 175) #[] #[.pointer (some ⟨w.heap.size + 1, 0, none⟩), .pointer (some ⟨w1.heap.size, 0, none⟩)]) ∧ w'.cell? ⟨b9, off9 + j, none⟩ = some (.slice a5 r.length c5))
          ((refine (fun (hB : Below W.heap.size W _) => ⟨hB, (hB.cell (p := ⟨w.heap.size, 0, none⟩) n0).trans k0, (hB.cell (p := ⟨w1.heap.size, 0, none⟩) n2).trans k2, (hB.cell (p := ⟨w2.heap.size, 0, none⟩) n3).trans k3, (hB.cell (p := ⟨b9, off9 + j, none⟩) hb9).trans g9⟩ : Below W.heap.size W _ → _) ?_; first | exact (Below.refl _ _).drew | exact held_call (by assumption) hbq))
          (first
            | (go_at_call 170; refine (HGO.out _ (show Below W.heap.size W _ ∧ _ ∧ _ ∧ _ ∧ _ by assumption).1).mono ?_; rintro e w3 ⟨rfl, hbq⟩; have hB3 := held_call (by assumption) hbq))
        have HB3 : Hid (Below W.heap.size W w3) := by first | exact hB3 | assumption
        have HB4 : Hid (Below w.heap.size w w3) := HBW.out.trans (HB3.out.mono HBW.out.size)
        have p0 := (HB3.out.cell (p := ⟨w.heap.size, 0, none⟩) n0).trans k0
        cases G
        · have HU : Hid (unitS s c = s) := unit_stays s c HF.out t HM.out HLV.out HO.out j r HJ.out HRR.out HG.out
          go_wp2
          go_ret
          rw [HU.out]
          exact ⟨_, rfl, HVA.out _ HB4.out, HB4.out⟩
        · have HU : Hid (unitS s c = siftS s (fun k z => decide ((k : Int) ≠ (j : Int)) || oneB c k z)) := by show _ = _; rw [unit_one s c HF.out t HM.out HLV.out HO.out, HJ.out]
          go_wp2_with fail
          refine (sift_any 176 _ s (fun k z => decide ((k : Int) ≠ (j : Int)) || oneB c k z) _ _ (HVA.out _ HB4.out) ⟨enters_left, ?_⟩ hn HR6.out).mono ?_
          · intro k q z w' hk _ hb'
            have hB' : Below W.heap.size W w' := HB3.out.trans (hb'.mono HB3.out.size)
            exact left_any c j k z _ (w.heap.size + 1) w1.heap.size w2.heap.size w' (HUA.out _ (HBW.out.trans (hB'.mono HBW.out.size))) ((hB'.cell (p := ⟨w.heap.size + 1, 0, none⟩) n1).trans k1) ((hB'.cell (p := ⟨w1.heap.size, 0, none⟩) n2).trans k2) ((hB'.cell (p := ⟨w2.heap.size, 0, none⟩) n3).trans k3)
          rintro e w4 ⟨x, rfl, hx, hb4⟩
          obtain ⟨M, hM⟩ : ∃ M, siftS s (fun k z => decide ((k : Int) ≠ (j : Int)) || oneB c k z) = M := ⟨_, rfl⟩
          have HM2 : Hid (unitS s c = M) := HU.out.trans hM
          rw [hM] at hx
          clear hM
          have HX : Hid (RArg w4 x M) := hx
          obtain ⟨ax, cx, rfl, _, _⟩ := hx
          have hB5 : Below w.heap.size w w4 := HB4.out.trans (hb4.mono HB4.out.size)
          clear hb4
          go_wp2
          go_ret
          rw [HM2.out]
          exact ⟨_, rfl, HX.out, hB5⟩
      · have HU : Hid (unitS s c = s) := unit_many s c HF.out t HM.out HLV.out HO.out
        go_wp2
        go_ret
        rw [HU.out]
        exact ⟨_, rfl, HVA.out _ HB2.out, HB2.out⟩
  · have HU : Hid (unitS s c = s) := by show _ = _; unfold unitS; rw [HF.out, if_pos rfl]
    go_wp2
    go_ret
    rw [HU.out]
    exact ⟨_, rfl, HVA.out _ (nb2 _ _ _), nb2 _ _ _⟩
end Go.Proofs.YtijohkhpigjbkaeGreatDoor
/-
  WALKS: package clause: Check, Holds, checkIn, Unit, Deny.
-/
namespace Go.Proofs.YtijohkhpigjbkaeGreatDoor
open Go.RowKit

def ccheckA (m : Mod) (c : Cla) : Int := if checkM m = 0 then claE m.vars c else checkM m
def choldsA (m : Mod) (c : Cla) (vals : List Int) : Bool × Int := if ccheckA m c = 0 then (if vals.length = m.vars.length then (claB c vals, 0) else (false, 1)) else (false, ccheckA m c)
def cinE (m : Mod) (s : Sto) (c : Cla) : Int := if checkL m [s] = 0 then claE m.vars c else checkL m [s]
def cunitA (m : Mod) (s : Sto) (c : Cla) : Sto × Int := if cinE m s c = 0 then (unitS s c, 0) else ([], cinE m s c)
def cdenyA (m : Mod) (s : Sto) (c : Cla) : Sto × Int := if cinE m s c = 0 then (denyS s c, 0) else ([], cinE m s c)
theorem cinE_ok (m : Mod) (s : Sto) (c : Cla) (h : cinE m s c = 0) : checkL m [s] = 0 ∧ claE m.vars c = 0 := by
  unfold cinE at h
  split at h
  · rename_i h0; exact ⟨h0, h⟩
  · contradiction
theorem ccheck_ok (m : Mod) (c : Cla) (h : ccheckA m c = 0) : checkM m = 0 ∧ claE m.vars c = 0 := by
  unfold ccheckA at h
  split at h
  · rename_i h0; exact ⟨h0, h⟩
  · contradiction
theorem claE_fine (vs : List MVar) (c : Cla) (h : claE vs c = 0) : ∀ l ∈ c, 0 ≤ l.var ∧ l.var < (vs.length : Int) := by
  unfold claE at h
  split at h
  · cases h
  · intro l hl
    exact ((litE_ok vs l).1 (firstE_all _ h _ (List.mem_map.2 ⟨l, hl, rfl⟩))).1

set_option maxHeartbeats 800000 in
set_option maxRecDepth 100000 in
theorem ccheck_any (m : Mod) (c : Cla) (vs cs u : Value) (w : World) (hm : MArg w vs cs m) (hu : LArg w u c) :
    Calls Tryz.prog 64 #[modV vs cs m, u] w fun e w' => e = .returned (.int .i64 (ccheckA m c)) ∧ Below w.heap.size w w' := by
  have HMA : Hid (∀ w' : World, Below w.heap.size w w' → MArg w' vs cs m) := fun w' h => MArg.below h hm
  have HUA : Hid (∀ w' : World, Below w.heap.size w w' → LArg w' u c) := fun w' h => LArg.below h hu
  obtain ⟨⟨a1, c1, rfl, _, _⟩, ⟨a2, c2, rfl, _, _⟩⟩ := hm
  obtain ⟨a3, c3, rfl, _, _⟩ := hu
  obtain ⟨R, hR⟩ : ∃ R, ccheckA m c = R := ⟨_, rfl⟩
  rw [hR]
  obtain ⟨er, her⟩ : ∃ er, checkM m = er := ⟨_, rfl⟩
  have HER : Hid (checkM m = er) := her
  have HE : Hid (R = if er = 0 then claE m.vars c else er) := by rw [← hR, ← her]; rfl
  clear hR her
  unfold modV
  go_enter Tryz.func64, Tryz.ntmps64
  go_wp2_with fail
  refine (check_model m (.slice a1 m.vars.length c1) (.slice a2 m.cons.length c2) _ ?_).mono ?_
  · exact HMA.out _ (below_alloc _ _)
  rintro e w1 ⟨rfl, hb1⟩
  rw [HER.out]
  have g0 : w1.cell? ⟨w.heap.size, 0, none⟩ = some (.slice a1 m.vars.length c1) := (hb1.cell (by simp)).trans (by simp)
  have HB1 : Hid (Below w.heap.size w w1) := (below_alloc _ _).trans (hb1.mono (by simp))
  clear hb1
  by_cases he : er = 0
  · subst he
    have HN : Hid (R = claE m.vars c) := by rw [HE.out, if_pos rfl]; rfl
    go_wp2_with fail
    refine (cla_check m.vars c _ _ _ (HMA.out _ HB1.out).1 (HUA.out _ HB1.out)).mono ?_
    rintro e w2 ⟨rfl, hb2⟩
    have hb3 : Below w.heap.size w w2 := HB1.out.trans (hb2.mono HB1.out.size)
    clear hb2
    go_wp2
    go_ret
    exact ⟨ret_int HN.out.symm, hb3⟩
  · have HN : Hid (R = er) := by rw [HE.out, if_neg he]; rfl
    have he2 : (er != 0) = true := by simpa using he
    clear he
    go_wp2
    go_ret
    exact ⟨ret_int HN.out.symm, HB1.out⟩

set_option maxHeartbeats 800000 in
set_option maxRecDepth 100000 in
theorem cin_any (m : Mod) (s : Sto) (c : Cla) (vs cs v u : Value) (w : World) (hm : MArg w vs cs m) (hv : RArg w v s) (hu : LArg w u c) :
    Calls Tryz.prog 115 #[modV vs cs m, v, u] w fun e w' => e = .returned (.int .i64 (cinE m s c)) ∧ Below w.heap.size w w' := by
  have HMA : Hid (∀ w' : World, Below w.heap.size w w' → MArg w' vs cs m) := fun w' h => MArg.below h hm
  have HVA : Hid (∀ w' : World, Below w.heap.size w w' → RArg w' v s) := fun w' h => RArg.below h hv
  have HUA : Hid (∀ w' : World, Below w.heap.size w w' → LArg w' u c) := fun w' h => LArg.below h hu
  obtain ⟨⟨a1, c1, rfl, _, _⟩, ⟨a2, c2, rfl, _, _⟩⟩ := hm
  obtain ⟨a3, c3, rfl, _, _⟩ := hv
  obtain ⟨a4, c4, rfl, _, _⟩ := hu
  obtain ⟨R, hR⟩ : ∃ R, cinE m s c = R := ⟨_, rfl⟩
  rw [hR]
  obtain ⟨er, her⟩ : ∃ er, checkL m [s] = er := ⟨_, rfl⟩
  have HER : Hid (checkL m [s] = er) := her
  have HE : Hid (R = if er = 0 then claE m.vars c else er) := by rw [← hR, ← her]; rfl
  clear hR her
  unfold modV
  go_enter Tryz.func115, Tryz.ntmps115
  go_wp2_with fail
  refine (scheck_any m s (.slice a1 m.vars.length c1) (.slice a2 m.cons.length c2) _ _ ?_ ?_).mono ?_
  · exact HMA.out _ (below_alloc _ _)
  · exact HVA.out _ (below_alloc _ _)
  rintro e w1 ⟨rfl, hb1⟩
  rw [HER.out]
  have g0 : w1.cell? ⟨w.heap.size, 0, none⟩ = some (.slice a1 m.vars.length c1) := (hb1.cell (by simp)).trans (by simp)
  have HB1 : Hid (Below w.heap.size w w1) := (below_alloc _ _).trans (hb1.mono (by simp))
  clear hb1
  by_cases he : er = 0
  · subst he
    have HN : Hid (R = claE m.vars c) := by rw [HE.out, if_pos rfl]; rfl
    go_wp2_with fail
    refine (cla_check m.vars c _ _ _ (HMA.out _ HB1.out).1 (HUA.out _ HB1.out)).mono ?_
    rintro e w2 ⟨rfl, hb2⟩
    have hb3 : Below w.heap.size w w2 := HB1.out.trans (hb2.mono HB1.out.size)
    clear hb2
    go_wp2
    go_ret
    exact ⟨ret_int HN.out.symm, hb3⟩
  · have HN : Hid (R = er) := by rw [HE.out, if_neg he]; rfl
    have he2 : (er != 0) = true := by simpa using he
    clear he
    go_wp2
    go_ret
    exact ⟨ret_int HN.out.symm, HB1.out⟩

set_option maxHeartbeats 800000 in
set_option maxRecDepth 100000 in
theorem cholds_any (m : Mod) (c : Cla) (vals : List Int) (vs cs u v : Value) (w : World) (hm : MArg w vs cs m) (hu : LArg w u c) (hv : IArg w v vals) :
    Calls Tryz.prog 25 #[modV vs cs m, u, v] w fun e w' => e = .returned (.tuple #[.bool (choldsA m c vals).1, .int .i64 (choldsA m c vals).2]) ∧ Below w.heap.size w w' := by
  have HMA : Hid (∀ w' : World, Below w.heap.size w w' → MArg w' vs cs m) := fun w' h => MArg.below h hm
  have HUA : Hid (∀ w' : World, Below w.heap.size w w' → LArg w' u c) := fun w' h => LArg.below h hu
  have HVA : Hid (∀ w' : World, Below w.heap.size w w' → IArg w' v vals) := fun w' h => IArg.below h hv
  obtain ⟨⟨a1, c1, rfl, _, _⟩, ⟨a2, c2, rfl, _, _⟩⟩ := hm
  obtain ⟨a3, c3, rfl, _, _⟩ := hu
  obtain ⟨a4, c4, rfl, _, _⟩ := hv
  obtain ⟨R, hR⟩ : ∃ R, choldsA m c vals = R := ⟨_, rfl⟩
  rw [hR]
  obtain ⟨er, her⟩ : ∃ er, ccheckA m c = er := ⟨_, rfl⟩
  have HER : Hid (ccheckA m c = er) := her
  have HE : Hid (R = if er = 0 then (if vals.length = m.vars.length then (claB c vals, 0) else (false, 1)) else (false, er)) := by rw [← hR, ← her]; rfl
  clear hR her
  unfold modV
  go_enter Tryz.func25, Tryz.ntmps25
  go_wp2_with fail
  refine (ccheck_any m c (.slice a1 m.vars.length c1) (.slice a2 m.cons.length c2) _ _ ?_ ?_).mono ?_
  · exact HMA.out _ (below_alloc _ _)
  · exact HUA.out _ (below_alloc _ _)
  rintro e w1 ⟨rfl, hb1⟩
  rw [HER.out]
  have g0 : w1.cell? ⟨w.heap.size, 0, none⟩ = some (.slice a1 m.vars.length c1) := (hb1.cell (by simp)).trans (by simp)
  have HB1 : Hid (Below w.heap.size w w1) := (below_alloc _ _).trans (hb1.mono (by simp))
  clear hb1
  by_cases he : er = 0
  · subst he
    by_cases hl : vals.length = m.vars.length
    · have HN : Hid (R = (c.any (litB vals), 0)) := by rw [HE.out, if_pos rfl, if_pos hl]; rfl
      have HCI : Hid (∀ l ∈ c, 0 ≤ l.var ∧ l.var < (vals.length : Int)) := by rw [hl]; exact claE_fine _ _ (ccheck_ok m c HER.out).2
      have hq : ((vals.length : Int) != (m.vars.length : Int)) = false := by simp [hl]
      clear hl
      go_wp2_with fail
      refine (clause_true c vals _ _ _ (HUA.out _ HB1.out) (HVA.out _ HB1.out) HCI.out).mono ?_
      rintro e w2 ⟨rfl, hb2⟩
      have hb3 : Below w.heap.size w w2 := HB1.out.trans (hb2.mono HB1.out.size)
      obtain ⟨B, hB⟩ : ∃ B, c.any (litB vals) = B := ⟨_, rfl⟩
      rw [hB] at HN ⊢
      clear hb2 hB
      go_wp2
      go_ret2
      exact ⟨by rw [HN.out]; rfl, hb3⟩
    · have HN : Hid (R = (false, 1)) := by rw [HE.out, if_pos rfl, if_neg hl]; rfl
      have hq : ((vals.length : Int) != (m.vars.length : Int)) = true := by simp; omega
      clear hl
      go_wp2
      go_ret2
      exact ⟨by rw [HN.out]; rfl, HB1.out⟩
  · have HN : Hid (R = (false, er)) := by rw [HE.out, if_neg he]; rfl
    have he2 : (er != 0) = true := by simpa using he
    clear he
    go_wp2
    go_ret2
    exact ⟨by rw [HN.out]; rfl, HB1.out⟩

set_option maxHeartbeats 800000 in
set_option maxRecDepth 100000 in
theorem cunit_any (m : Mod) (s : Sto) (c : Cla) (vs cs v u : Value) (w : World) (hm : MArg w vs cs m) (hv : RArg w v s) (hu : LArg w u c) :
    Calls Tryz.prog 62 #[modV vs cs m, v, u] w fun e w' => ∃ x, e = .returned (.tuple #[x, .int .i64 (cunitA m s c).2]) ∧ RArg w' x (cunitA m s c).1 ∧ Below w.heap.size w w' := by
  have HMA : Hid (∀ w' : World, Below w.heap.size w w' → MArg w' vs cs m) := fun w' h => MArg.below h hm
  have HVA : Hid (∀ w' : World, Below w.heap.size w w' → RArg w' v s) := fun w' h => RArg.below h hv
  have HUA : Hid (∀ w' : World, Below w.heap.size w w' → LArg w' u c) := fun w' h => LArg.below h hu
  obtain ⟨⟨a1, c1, rfl, _, _⟩, ⟨a2, c2, rfl, _, _⟩⟩ := hm
  obtain ⟨a3, c3, rfl, _, _⟩ := hv
  obtain ⟨a4, c4, rfl, _, _⟩ := hu
  obtain ⟨R, hR⟩ : ∃ R, cunitA m s c = R := ⟨_, rfl⟩
  rw [hR]
  obtain ⟨er, her⟩ : ∃ er, cinE m s c = er := ⟨_, rfl⟩
  have HER : Hid (cinE m s c = er) := her
  have HE : Hid (R = if er = 0 then (unitS s c, 0) else ([], er)) := by rw [← hR, ← her]; rfl
  clear hR her
  unfold modV
  go_enter Tryz.func62, Tryz.ntmps62
  go_wp2_with fail
  refine (cin_any m s c (.slice a1 m.vars.length c1) (.slice a2 m.cons.length c2) _ _ _ ?_ ?_ ?_).mono ?_
  · exact HMA.out _ (below_alloc _ _)
  · exact HVA.out _ (below_alloc _ _)
  · exact HUA.out _ (below_alloc _ _)
  rintro e w1 ⟨rfl, hb1⟩
  rw [HER.out]
  have HB1 : Hid (Below w.heap.size w w1) := (below_alloc _ _).trans (hb1.mono (by simp))
  clear hb1
  by_cases he : er = 0
  · subst he
    obtain ⟨o1, o2⟩ := cinE_ok m s c HER.out
    obtain ⟨o3, o4⟩ := (checkL_one m s).1 o1
    obtain ⟨hn6, hr6⟩ := rows_short m s o3 o4
    have HR6 : Hid (∀ r ∈ s, r.length ≤ 6) := hr6
    have HCI : Hid (ClaIn s c) := by intro l hl; rw [((checkV_ok _ _).1 o4).1]; exact claE_fine _ _ o2 l hl
    obtain ⟨hn7, hr7⟩ := rows_short m (unitS s c) o3 (checkV_unit m.vars s c o4)
    have HR7 : Hid (∀ r ∈ unitS s c, r.length ≤ 6) := hr7
    have HN : Hid (R = (unitS s c, 0)) := by rw [HE.out, if_pos rfl]; rfl
    clear o1 o2 o3 o4 hr6 hr7
    go_wp2_with fail
    refine (unit_any s c _ _ _ (HVA.out _ HB1.out) (HUA.out _ HB1.out) HCI.out hn6 HR6.out).mono ?_
    rintro e w2 ⟨x, rfl, hx, hb2⟩
    obtain ⟨M, hM⟩ : ∃ M, unitS s c = M := ⟨_, rfl⟩
    rw [hM] at hx HN hn7 HR7
    have HX : Hid (RArg w2 x M) := hx
    obtain ⟨ax, cx, rfl, _, _⟩ := hx
    have HB2 : Hid (Below w.heap.size w w2) := HB1.out.trans (hb2.mono HB1.out.size)
    clear hb2 hM
    go_wp2_with fail
    refine (all_any M _ _ HX.out hn7 HR7.out).mono ?_
    rintro e w3 ⟨y, rfl, hy, hb3⟩
    have HY : Hid (RArg w3 y M) := hy
    obtain ⟨ay, cy, rfl, _, _⟩ := hy
    have hB3 : Below w.heap.size w w3 := HB2.out.trans (hb3.mono HB2.out.size)
    clear hb3
    go_wp2
    go_ret2
    rw [HN.out]
    exact ⟨_, rfl, HY.out, hB3⟩
  · have HN : Hid (R = ([], er)) := by rw [HE.out, if_neg he]; rfl
    have he2 : (er != 0) = true := by simpa using he
    clear he
    go_wp2
    go_ret2
    rw [HN.out]
    exact ⟨_, rfl, ⟨_, _, rfl, ⟨Nat.le_refl _, Nat.zero_le _⟩, fun i r h => by simp at h⟩, HB1.out⟩

set_option maxHeartbeats 400000 in
set_option maxRecDepth 100000 in
theorem denied_any (c : Cla) (k : Nat) (z : Int) (u : Value) (bc : Nat) (w : World) (hu : LArg w u c) (h1 : w.cell? ⟨bc, 0, none⟩ = some u) :
    Calls Tryz.prog 118 #[.int .i64 (k : Int), .int .i64 z, .pointer (some ⟨bc, 0, none⟩)] w fun e w' => e = .returned (.bool (!oneB c k z)) ∧ Below w.heap.size w w' := by
  have HU : Hid (LArg w u c) := hu
  obtain ⟨a, cc, rfl, _, _⟩ := hu
  go_enter Tryz.func118, Tryz.ntmps118
  go_wp2_with fail
  refine (one_of c k z _ _ HU.out).mono ?_
  rintro e w1 ⟨rfl, hb1⟩
  go_wp2
  go_ret
  exact ⟨rfl, hb1⟩
theorem enters_denied (args : Array Value) (w' : World) : Sem.run Tryz.prog (callFunc 118 args) w' = .ok (.enter 118 args) w' := by
  simp [callFunc, go_sem, Tryz.func118, Tryz.f118]

set_option maxHeartbeats 800000 in
set_option maxRecDepth 100000 in
theorem cdeny_any (m : Mod) (s : Sto) (c : Cla) (vs cs v u : Value) (w : World) (hm : MArg w vs cs m) (hv : RArg w v s) (hu : LArg w u c) :
    Calls Tryz.prog 63 #[modV vs cs m, v, u] w fun e w' => ∃ x, e = .returned (.tuple #[x, .int .i64 (cdenyA m s c).2]) ∧ RArg w' x (cdenyA m s c).1 ∧ Below w.heap.size w w' := by
  have HMA : Hid (∀ w' : World, Below w.heap.size w w' → MArg w' vs cs m) := fun w' h => MArg.below h hm
  have HVA : Hid (∀ w' : World, Below w.heap.size w w' → RArg w' v s) := fun w' h => RArg.below h hv
  have HUA : Hid (∀ w' : World, Below w.heap.size w w' → LArg w' u c) := fun w' h => LArg.below h hu
  obtain ⟨⟨a1, c1, rfl, _, _⟩, ⟨a2, c2, rfl, _, _⟩⟩ := hm
  obtain ⟨a3, c3, rfl, _, _⟩ := hv
  obtain ⟨a4, c4, rfl, _, _⟩ := hu
  obtain ⟨R, hR⟩ : ∃ R, cdenyA m s c = R := ⟨_, rfl⟩
  rw [hR]
  obtain ⟨er, her⟩ : ∃ er, cinE m s c = er := ⟨_, rfl⟩
  have HER : Hid (cinE m s c = er) := her
  have HE : Hid (R = if er = 0 then (denyS s c, 0) else ([], er)) := by rw [← hR, ← her]; rfl
  clear hR her
  unfold modV
  go_enter Tryz.func63, Tryz.ntmps63
  go_wp2_with fail
  refine (cin_any m s c (.slice a1 m.vars.length c1) (.slice a2 m.cons.length c2) _ _ _ ?_ ?_ ?_).mono ?_
  · exact HMA.out _ (nb2 _ _ _)
  · exact HVA.out _ (nb2 _ _ _)
  · exact HUA.out _ (nb2 _ _ _)
  rintro e w1 ⟨rfl, hb1⟩
  rw [HER.out]
  have d1 : w1.cell? ⟨w.heap.size + 1, 0, none⟩ = some (.slice a4 c.length c4) := (hb1.cell (by simp)).trans (World.cell?_alloc_at _ _ _ 0 (by simp))
  have HB1 : Hid (Below w.heap.size w w1) := (nb2 _ _ _).trans (hb1.mono (by simp; omega))
  have hs1 : w.heap.size + 2 ≤ w1.heap.size := by simpa using hb1.size
  clear hb1
  by_cases he : er = 0
  · subst he
    obtain ⟨o1, o2⟩ := cinE_ok m s c HER.out
    obtain ⟨o3, o4⟩ := (checkL_one m s).1 o1
    obtain ⟨hn6, hr6⟩ := rows_short m s o3 o4
    have HR6 : Hid (∀ r ∈ s, r.length ≤ 6) := hr6
    have HN : Hid (R = (siftS s (fun k z => !oneB c k z), 0)) := by rw [HE.out, if_pos rfl]; rfl
    clear o1 o2 o3 o4 hr6
    go_wp2_with fail
    refine (sift_any 118 _ s (fun k z => !oneB c k z) _ _ (HVA.out _ HB1.out) ⟨enters_denied, ?_⟩ hn6 HR6.out).mono ?_
    · intro k q z w' hk _ hb'
      exact denied_any c k z _ (w.heap.size + 1) w' (HUA.out _ (HB1.out.trans (hb'.mono HB1.out.size))) ((hb'.cell (by simp only; omega)).trans d1)
    rintro e w2 ⟨x, rfl, hx, hb2⟩
    obtain ⟨M, hM⟩ : ∃ M, siftS s (fun k z => !oneB c k z) = M := ⟨_, rfl⟩
    rw [hM] at hx HN
    have HX : Hid (RArg w2 x M) := hx
    obtain ⟨ax, cx, rfl, _, _⟩ := hx
    have hB2 : Below w.heap.size w w2 := HB1.out.trans (hb2.mono HB1.out.size)
    clear hb2 hM
    go_wp2
    go_ret2
    rw [HN.out]
    exact ⟨_, rfl, HX.out, hB2⟩
  · have HN : Hid (R = ([], er)) := by rw [HE.out, if_neg he]; rfl
    have he2 : (er != 0) = true := by simpa using he
    clear he
    go_wp2
    go_ret2
    rw [HN.out]
    exact ⟨_, rfl, ⟨_, _, rfl, ⟨Nat.le_refl _, Nat.zero_le _⟩, fun i r h => by simp at h⟩, HB1.out⟩
end Go.Proofs.YtijohkhpigjbkaeGreatDoor
/-
  WALK: all of some clauses hold of values (allClauses of the laws).
-/
namespace Go.Proofs.YtijohkhpigjbkaeGreatDoor
open Go.RowKit

def okB (m : Mod) (vals : List Int) (c : Cla) : Bool := decide ((choldsA m c vals).2 = 0) && (choldsA m c vals).1
theorem okB_claB (m : Mod) (vals : List Int) (c : Cla) (h : okB m vals c = true) : claB c vals = true := by
  unfold okB at h
  rw [Bool.and_eq_true, decide_eq_true_eq] at h
  obtain ⟨h1, h2⟩ := h
  unfold choldsA at h1 h2
  by_cases h0 : ccheckA m c = 0
  · rw [if_pos h0] at h1 h2
    by_cases hl : vals.length = m.vars.length
    · rw [if_pos hl] at h2; exact h2
    · rw [if_neg hl] at h2; cases h2
  · rw [if_neg h0] at h2; cases h2

set_option maxHeartbeats 1600000 in
set_option maxRecDepth 100000 in
theorem allcla_any (m : Mod) (l : List Cla) (vals : List Int) (vs cs u v : Value) (w : World) (hm : MArg w vs cs m) (hu : LLArg w u l) (hv : IArg w v vals) :
    Calls Tryz.prog 38 #[modV vs cs m, u, v] w fun e w' => e = .returned (.bool (l.all (okB m vals))) ∧ Below w.heap.size w w' := by
  have HMA : Hid (∀ w' : World, Below w.heap.size w w' → MArg w' vs cs m) := fun w' h => MArg.below h hm
  have HVA : Hid (∀ w' : World, Below w.heap.size w w' → IArg w' v vals) := fun w' h => IArg.below h hv
  obtain ⟨⟨a1, c1, rfl, _, _⟩, ⟨a2, c2, rfl, _, _⟩⟩ := hm
  obtain ⟨a3, c3, rfl, hm3, hr3⟩ := hu
  obtain ⟨a4, c4, rfl, _, _⟩ := hv
  have HU : Hid (∀ (i : Nat) (t : Cla), l[i]? = some t → ∃ b off x, a3 = some ⟨b, off, none⟩ ∧ b < w.heap.size ∧ w.cell? ⟨b, off + i, none⟩ = some x ∧ LArg w x t) := hr3
  obtain ⟨R, hR⟩ : ∃ R, l.all (okB m vals) = R := ⟨_, rfl⟩
  rw [hR]
  have HR : Hid (l.all (okB m vals) = R) := hR
  unfold maxLen at hm3
  obtain ⟨hm31, hm3⟩ := hm3
  obtain ⟨W, hW⟩ : ∃ W : World, W = w.alloc (.cells #[.slice a1 m.vars.length c1, .slice a2 m.cons.length c2, .int .i64 m.goal, .int .i64 m.var] 25) := ⟨_, rfl⟩
  have HW : Hid (W = w.alloc (.cells #[.slice a1 m.vars.length c1, .slice a2 m.cons.length c2, .int .i64 m.goal, .int .i64 m.var] 25)) := hW
  have HBW : Hid (Below w.heap.size w W) := by rw [hW]; exact below_alloc _ _
  have hsW : w.heap.size < W.heap.size := by rw [hW]; simp
  have HC : Hid (∀ w' : World, Below W.heap.size W w' → w'.cell? ⟨w.heap.size, 0, none⟩ = some (.slice a1 m.vars.length c1) ∧ w'.cell? ⟨w.heap.size, 1, none⟩ = some (.slice a2 m.cons.length c2) ∧ w'.cell? ⟨w.heap.size, 2, none⟩ = some (.int .i64 m.goal) ∧ w'.cell? ⟨w.heap.size, 3, none⟩ = some (.int .i64 m.var)) := by
    intro w' h
    refine ⟨?_, ?_, ?_, ?_⟩
    all_goals (refine (h.cell hsW).trans ?_; rw [hW]; simp)
  clear hR hr3 hW
  unfold modV
  go_enter Tryz.func38, Tryz.ntmps38
  go_wp2_with fail
  rw [← HW.out]
  clear HW
  go_loopw [7] (fun i wr => ∃ k : Nat, k ≤ l.length ∧ i = .int .i64 k ∧ Hid ((l.take k).all (okB m vals) = true) ∧ Below W.heap.size W wr) (fun i _ => l.length - (intOf i).toNat)
  case atStart => exact ⟨0, by omega, rfl, rfl, Below.refl _ _⟩
  case round =>
    obtain ⟨k, hk, rfl, hall, hbw⟩ := hrel
    by_cases hlt : k < l.length
    · obtain ⟨t, hz⟩ : ∃ z, l[k]? = some z := ⟨l[k], by simp [hlt]⟩
      obtain ⟨b, off, x, ha, hb, q0, hx⟩ := HU.out k t hz
      have hB0 : Below w.heap.size w wr := HBW.out.trans (hbw.mono (by omega))
      have HX : Hid (∀ w' : World, Below w.heap.size w w' → LArg w' x t) := fun w' h => LArg.below h hx
      obtain ⟨a5, c5, rfl, _, _⟩ := hx
      have e5 := (hB0.cell (p := ⟨b, off + k, none⟩) hb).trans q0
      obtain ⟨e0, e1, e2, e3⟩ := HC.out _ hbw
      have l0 : w.heap.size < wr.heap.size := Nat.lt_of_lt_of_le hsW hbw.size
      have l5 : b < wr.heap.size := Nat.lt_of_lt_of_le hb hB0.size
      subst ha
      have HZ : Hid (l[k]? = some t) := hz
      have HB0 : Hid (Below w.heap.size w wr) := hB0
      have HBWR : Hid (Below W.heap.size W wr) := hbw
      obtain ⟨ok, hok⟩ : ∃ ok, (choldsA m t vals).1 = ok := ⟨_, rfl⟩
      obtain ⟨er, her⟩ : ∃ er, (choldsA m t vals).2 = er := ⟨_, rfl⟩
      have HH : Hid (choldsA m t vals = (ok, er)) := Prod.ext hok her
      have HOB : Hid (okB m vals t = (decide (er = 0) && ok)) := by show _ = _; unfold okB; rw [hok, her]
      have HCL : Hid (∀ Y : World, Below wr.heap.size wr Y → Calls Tryz.prog 25 #[.agg #[.slice a1 m.vars.length c1, .slice a2 m.cons.length c2, .int .i64 m.goal, .int .i64 m.var], .slice a5 t.length c5, .slice a4 vals.length c4] Y fun e w' => e = .returned (.tuple #[.bool ok, .int .i64 er]) ∧ Below Y.heap.size Y w') := by
        intro Y hY
        have hY0 : Below w.heap.size w Y := HB0.out.trans (hY.mono HB0.out.size)
        have h := cholds_any m t vals (.slice a1 m.vars.length c1) (.slice a2 m.cons.length c2) _ _ Y (HMA.out _ hY0) (HX.out _ hY0) (HVA.out _ hY0)
        rw [HH.out] at h
        exact h
      clear hz q0 hB0 hbw hok her hb
      go_wp2_with fail
      go_region_held3 (fun w' => Below wr.heap.size wr w' ∧ w'.cell? ⟨w.heap.size, 0, none⟩ = some (.slice a1 m.vars.length c1) ∧ w'.cell? ⟨w.heap.size, 1, none⟩ = some (.slice a2 m.cons.length c2) ∧ w'.cell? ⟨w.heap.size, 2, none⟩ = some (.int .i64 m.goal) ∧ w'.cell? ⟨w.heap.size, 3, none⟩ = some (.int .i64 m.var) ∧ w'.cell? ⟨b, off + k, none⟩ = some (.slice a5 t.length c5))
        ((refine (fun (hB : Below wr.heap.size wr _) => ⟨hB, (hB.cell (p := ⟨w.heap.size, 0, none⟩) l0).trans e0, (hB.cell (p := ⟨w.heap.size, 1, none⟩) l0).trans e1, (hB.cell (p := ⟨w.heap.size, 2, none⟩) l0).trans e2, (hB.cell (p := ⟨w.heap.size, 3, none⟩) l0).trans e3, (hB.cell (p := ⟨b, off + k, none⟩) l5).trans e5⟩ : Below wr.heap.size wr _ → _) ?_; first | exact (Below.refl _ _).drew | exact hBq))
        (first
          | (go_at_call 25; refine (HCL.out _ (show Below wr.heap.size wr _ ∧ _ ∧ _ ∧ _ ∧ _ ∧ _ by assumption).1).mono ?_; rintro e wq ⟨rfl, hbq⟩; have hBq := held_call (by assumption) hbq))
      have HBQ : Hid (Below W.heap.size W wq) := HBWR.out.trans (hBq.mono HBWR.out.size)
      have HBQ0 : Hid (Below w.heap.size w wq) := HBW.out.trans (HBQ.out.mono (by omega))
      by_cases he : er = 0
      · subst he
        cases ok
        · have HN : Hid (R = false) := by rw [← HR.out]; exact all_hit (okB m vals) l k t HZ.out (by rw [HOB.out]; rfl)
          go_wp2
          go_ret
          exact ⟨ret_bool HN.out.symm, HBQ0.out⟩
        · have HN : Hid ((l.take (k + 1)).all (okB m vals) = true) := all_next _ l k t HZ.out hall.out (by rw [HOB.out]; rfl)
          go_wp2
          go_roundw
          case rel => exact ⟨k + 1, by omega, by go_num, HN, HBQ.out⟩
          case measure => simp [intOf]; omega
      · have HN : Hid (R = false) := by rw [← HR.out]; exact all_hit (okB m vals) l k t HZ.out (by rw [HOB.out, decide_eq_false he]; rfl)
        have he2 : (er != 0) = true := by simpa using he
        clear he
        go_wp2
        go_ret
        exact ⟨ret_bool HN.out.symm, HBQ0.out⟩
    · have HN : Hid (R = true) := by rw [← HR.out]; exact all_end _ l k hlt hall.out
      have hBe : Below w.heap.size w wr := HBW.out.trans (hbw.mono (by omega))
      go_wp2
      go_ret
      exact ⟨ret_bool HN.out.symm, hBe⟩
end Go.Proofs.YtijohkhpigjbkaeGreatDoor
/-
  PLAIN: what is learned holds. WALK: what must be in any case, of learning (learnBegun of the laws).
-/
namespace Go.Proofs.YtijohkhpigjbkaeGreatDoor
open Go.RowKit

theorem opps_right (m : Mod) : ∀ (d out : Cla), (oppsN m d out).2 = 0 → (∀ x ∈ out, litE m.vars x = 0) → ∀ x ∈ (oppsN m d out).1, litE m.vars x = 0
  | [], out, _, ho => ho
  | t :: r, out, h, ho => by
    unfold oppsN at h ⊢
    by_cases h1 : (lnotA m t).2 = 0
    · rw [if_pos h1] at h ⊢
      refine opps_right m r _ h fun x hx => ?_
      rcases List.mem_append.1 hx with h2 | h2
      · exact ho x h2
      · rw [List.mem_singleton.1 h2]
        unfold lnotA at h1 ⊢
        split at h1
        · rename_i h3
          rw [if_pos h3]
          split at h1
          · rename_i h4
            rw [if_pos h4]; exact h4
          · rename_i h4
            exact absurd h1 h4
        · rename_i h3
          exact absurd h1 h3
    · rw [if_neg h1] at h; exact absurd h h1
theorem learned_parts (m : Mod) (l : List Cla) (d : Cla) (h : (learnedA m l d).2.1 = true) : checkM m = 0 ∧ clasE m.vars l = 0 ∧ (learnedA m l d).2.2 = 0 ∧ claE m.vars (learnedA m l d).1 = 0 ∧ nothingP m.vars (l.map (heldP m.vars)) (ptsM m) (learnedA m l d).1 = true := by
  unfold learnedA at h ⊢
  by_cases h1 : learnE m l d = 0
  · obtain ⟨c0, c1, c2⟩ := learnE_zero m l d h1
    rw [if_pos h1] at h ⊢
    by_cases h2 : (oppsN m d []).2 = 0
    · rw [if_pos h2] at h ⊢
      dsimp only at h ⊢
      have hr := opps_right m d [] h2 (fun x hx => by cases hx)
      have h4 := opps_len m d []
      simp only [List.length_nil, Nat.zero_add] at h4
      have h5 := claE_len _ _ c2
      unfold leastA at h ⊢
      by_cases h3 : nothingP m.vars (l.map (heldP m.vars)) (ptsM m) (oppsN m d []).1 = true
      · rw [if_pos h3] at h ⊢
        refine ⟨c0, c1, rfl, ?_, ?_⟩
        · show claE m.vars (leastC m.vars (l.map (heldP m.vars)) (ptsM m) (oppsN m d []).1) = 0
          unfold claE
          have h6 : (leastC m.vars (l.map (heldP m.vars)) (ptsM m) (oppsN m d []).1).length ≤ (oppsN m d []).1.length := least_len _ _ _
          rw [if_neg (by omega)]
          refine firstE_zero _ fun e he => ?_
          obtain ⟨x, hx, rfl⟩ := List.mem_map.1 he
          exact hr x (least_mem _ x _ _ hx)
        · exact least_enough _ _ _ h3
      · rw [if_neg h3] at h; cases h
    · rw [if_neg h2] at h; cases h
  · rw [if_neg h1] at h; cases h
/-- WHAT IS LEARNED HOLDS OF ALL VALUES OF WHICH ALL OF THE MODEL AND ALL CLAUSES HOLD. -/
theorem learn_holds (m : Mod) (l : List Cla) (d : Cla) (vals : List Int) (h1 : (learnedA m l d).2.1 = true) (h2 : allA m vals = (true, 0)) (h3 : l.all (okB m vals) = true) : choldsA m (learnedA m l d).1 vals = (true, 0) := by
  obtain ⟨c0, c1, c2, c3, c4⟩ := learned_parts m l d h1
  obtain ⟨_, a1, a2⟩ := allA_parts m vals h2
  have hm := maybe_of m.vars vals a1
  have hok := vars_okP m c0
  have hh := learned_holds m c0 vals hm a2 (l.map (heldP m.vars)) (fun c hc => by
    obtain ⟨x, hx, rfl⟩ := List.mem_map.1 hc
    exact (held_hits m.vars hok vals hm x (cla_vars m x ((clasE_ok m.vars l c1).2 x hx))).2 (okB_claB m vals x (List.all_eq_true.1 h3 x hx))) _ c4
  have hb := (held_hits m.vars hok vals hm _ (cla_vars m _ c3)).1 hh
  unfold choldsA ccheckA
  rw [if_pos c0, c3, if_pos rfl, if_pos hm.1, hb]

theorem lit_made1 (w : World) (v o n : Int) (B : Nat) (hB : B = w.heap.size) : LArg (w.alloc (.cells #[.int .i64 v, .int .i64 o, .int .i64 n] 42)) (.slice (some ⟨B, 0, none⟩) 1 1) [⟨v, o, n⟩] := by
  subst hB
  refine ⟨_, 1, rfl, ⟨by simp, by unfold maxLen; omega⟩, fun i t ht => ?_⟩
  match i, ht with
  | 0, ht =>
    cases ht
    exact ⟨_, 0, rfl, by simp, World.cell?_alloc_at _ _ _ 0 (by simp), World.cell?_alloc_at _ _ _ 1 (by simp), World.cell?_alloc_at _ _ _ 2 (by simp)⟩
theorem no_clas (w : World) : LLArg w (.slice none 0 0) [] := ⟨none, 0, rfl, ⟨Nat.le_refl _, Nat.zero_le _⟩, fun i z hz => by simp at hz⟩
theorem steps_wide (l : List SV) : ∀ c ∈ l.map stepCs, c.length = 3 := by
  intro c hc
  obtain ⟨t, _, rfl⟩ := List.mem_map.1 hc
  rfl
theorem step_cells {base : Nat} {w : World} {v : Value} {L : List SV} (h : StOwn base w v L) (k : Nat) (x : SV) (hx : L[k]? = some x) : ∃ g cc, v = .slice (some ⟨g, 0, none⟩) L.length cc ∧ L.length ≤ cc ∧ cc ≤ maxLen ∧ g < w.heap.size ∧
    w.cell? ⟨g, k * 3, none⟩ = some (.int .i64 x.1.kind) ∧ w.cell? ⟨g, k * 3 + 1, none⟩ = some (.int .i64 x.1.con) ∧ w.cell? ⟨g, k * 3 + 2, none⟩ = some x.2 := by
  have hk : k < L.length := (List.getElem?_eq_some_iff.1 hx).1
  have hw := steps_wide L
  have get : ∀ (j : Nat) (u : Value), j < 3 → (stepCs x)[j]? = some u → ((L.map stepCs).flatten)[k * 3 + j]? = some u := by
    intro j u hj hu
    have h1 : (((L.map stepCs).flatten).drop (k * 3))[j]? = some u := by
      rw [flat_drop 3 k _ hw, ← List.map_drop, List.drop_eq_getElem_cons hk]
      have e : L[k] = x := by rw [List.getElem?_eq_getElem hk] at hx; exact Option.some.inj hx
      rw [List.map_cons, List.flatten_cons, e, List.getElem?_append_left (by show j < 3; exact hj)]
      exact hu
    rw [List.getElem?_drop] at h1
    exact h1
  rcases h.1.2 with ⟨rfl, hn⟩ | ⟨g, cap, cur, rfl, hg, hh, hc1, hc2, _, _⟩
  · omega
  · refine ⟨g, cap, rfl, hc1, hc2, (Array.getElem?_eq_some_iff.1 hh).1, ?_, ?_, ?_⟩
    · rw [h.1.cellAt _ (by omega)]; exact get 0 _ (by omega) rfl
    · rw [h.1.cellAt _ (by omega)]; exact get 1 _ (by omega) rfl
    · rw [h.1.cellAt _ (by omega)]; exact get 2 _ (by omega) rfl
theorem last_split {α β : Type} (f : α → β) (L : List α) (S : List β) (b : β) (h : L.map f = S ++ [b]) : ∃ x, L[S.length]? = some x ∧ f x = b ∧ L.length = S.length + 1 := by
  have hl : L.length = S.length + 1 := by have := congrArg List.length h; simpa using this
  have h1 : (L.map f)[S.length]? = some b := by rw [h]; simp
  rw [List.getElem?_map] at h1
  obtain ⟨x, hx, he⟩ := Option.map_eq_some_iff.1 h1
  exact ⟨x, hx, he, hl⟩
theorem drawn_below {w w' : World} (h : ∃ n, w' = w.drewN n) : Below w.heap.size w w' := by
  obtain ⟨n, rfl⟩ := h
  exact ⟨rfl, rfl, rfl, Nat.le_refl _, fun _ _ => rfl⟩

set_option maxHeartbeats 3200000 in
set_option maxRecDepth 100000 in
theorem begun_learn (w : World) (hT : TabT w) :
    Calls Tryz.prog 28 #[] w fun e w' => e = .returned (.bool true) ∧ Below w.heap.size w w' := by
  have HT : Hid (∀ w', Below w.heap.size w w' → TabT w') := fun w' h => hT.below h
  clear hT
  have HB0 : Hid (Below w.heap.size w (w.alloc (.cells #[.int .i64 1, .int .i64 1, .int .i64 0] 42))) := below_alloc _ _
  have HD : Hid (∀ w', Below (w.alloc (.cells #[.int .i64 1, .int .i64 1, .int .i64 0] 42)).heap.size (w.alloc (.cells #[.int .i64 1, .int .i64 1, .int .i64 0] 42)) w' → LArg w' (.slice (some ⟨w.heap.size, 0, none⟩) 1 1) dTwo) := fun w' h => LArg.below h (lit_made1 w 1 1 0 _ rfl)
  obtain ⟨S, hS⟩ := lea_s
  have HS : Hid (lstepsA twoM [] dTwo = (S ++ [⟨2, 0, [⟨1, 2, 1⟩]⟩], true, 0)) := hS
  clear hS
  go_enter Tryz.func28, Tryz.ntmps28
  go_wp2_with fail
  refine (two_any _).mono ?_
  rintro e w1 ⟨vs, cs, rfl, hm, hb1⟩
  have HM : Hid (MArg w1 vs cs twoM) := hm
  have HA1 : Hid (Below (w.alloc (.cells #[.int .i64 1, .int .i64 1, .int .i64 0] 42)).heap.size (w.alloc (.cells #[.int .i64 1, .int .i64 1, .int .i64 0] 42)) w1) := hb1
  clear hm hb1
  go_wp2_with fail
  refine (learn_any twoM [] dTwo _ _ _ _ _ HM.out (no_clas _) (HD.out _ HA1.out) (HT.out _ (HB0.out.trans (HA1.out.mono HB0.out.size)))).mono ?_
  rintro e w2 ⟨x, rfl, hx, hb2⟩
  rw [lea_l1] at hx ⊢
  dsimp only at hx ⊢
  have HX : Hid (∀ Y, Below w2.heap.size w2 Y → LArg Y x [⟨1, 2, 1⟩]) := fun Y hY => LArg.below hY hx.arg
  have HA2 : Hid (Below (w.alloc (.cells #[.int .i64 1, .int .i64 1, .int .i64 0] 42)).heap.size (w.alloc (.cells #[.int .i64 1, .int .i64 1, .int .i64 0] 42)) w2) := HA1.out.trans (hb2.mono HA1.out.size)
  obtain ⟨ax, cx, hxe⟩ := own_form (show w2.ownsRow _ _ _ _ _ _ from hx)
  subst hxe
  clear hx hb2 HM
  go_wp2_with fail
  refine (two_any _).mono ?_
  rintro e w3 ⟨vs, cs, rfl, hm, hb3⟩
  have HM : Hid (MArg w3 vs cs twoM) := hm
  have HX3 : Hid (Below w2.heap.size w2 w3) := hb3
  have HA3 : Hid (Below (w.alloc (.cells #[.int .i64 1, .int .i64 1, .int .i64 0] 42)).heap.size (w.alloc (.cells #[.int .i64 1, .int .i64 1, .int .i64 0] 42)) w3) := HA2.out.trans (hb3.mono HA2.out.size)
  clear hm hb3
  go_wp2_with fail
  refine (learn_any twoM [] [] _ _ _ _ _ HM.out (no_clas _) (nil_cla _) (HT.out _ (HB0.out.trans (HA3.out.mono HB0.out.size)))).mono ?_
  rintro e w4 ⟨y, rfl, hy, hb4⟩
  rw [lea_l2] at hy ⊢
  dsimp only at hy ⊢
  obtain ⟨ay, cy, hye⟩ := own_form (show w4.ownsRow _ _ _ _ _ _ from hy)
  subst hye
  have HX4 : Hid (Below w2.heap.size w2 w4) := HX3.out.trans (hb4.mono HX3.out.size)
  have HA4 : Hid (Below (w.alloc (.cells #[.int .i64 1, .int .i64 1, .int .i64 0] 42)).heap.size (w.alloc (.cells #[.int .i64 1, .int .i64 1, .int .i64 0] 42)) w4) := HA3.out.trans (hb4.mono HA3.out.size)
  clear hy hb4 HM
  go_wp2_with fail
  refine (two_any _).mono ?_
  rintro e w5 ⟨vs, cs, rfl, hm, hb5⟩
  have HM : Hid (MArg w5 vs cs twoM) := hm
  have HX5 : Hid (Below w2.heap.size w2 w5) := HX4.out.trans (hb5.mono HX4.out.size)
  have HA5 : Hid (Below (w.alloc (.cells #[.int .i64 1, .int .i64 1, .int .i64 0] 42)).heap.size (w.alloc (.cells #[.int .i64 1, .int .i64 1, .int .i64 0] 42)) w5) := HA4.out.trans (hb5.mono HA4.out.size)
  clear hm hb5
  go_wp2_with fail
  refine (lsteps_any twoM [] dTwo _ _ _ _ _ HM.out (no_clas _) (HD.out _ HA5.out) (HT.out _ (HB0.out.trans (HA5.out.mono HB0.out.size)))).mono ?_
  rintro e w6 ⟨z, L, rfl, hmp, hso, hl15, hb6⟩
  rw [HS.out] at hmp ⊢
  dsimp only at hmp ⊢
  obtain ⟨q, hq, hqe, hql⟩ := last_split (fun x : SV => x.1) L S _ hmp
  obtain ⟨g, cc, rfl, hcc1, hcc2, hgl, _, _, s2⟩ := step_cells hso _ q hq
  have HQ : Hid (LArg w6 q.2 [⟨1, 2, 1⟩]) := by have h1 := (hso.2 q (List.mem_of_getElem? hq)).arg; rw [hqe] at h1; exact h1
  obtain ⟨aq, cq, hqq, _, _⟩ := id HQ.out
  rw [hqq] at s2
  have HQ2 : Hid (∀ Y, Below w6.heap.size w6 Y → LArg Y (.slice aq 1 cq) [⟨1, 2, 1⟩]) := fun Y hY => LArg.below hY (by have h1 := HQ.out; rw [hqq] at h1; exact h1)
  have HX6 : Hid (Below w2.heap.size w2 w6) := HX5.out.trans (hb6.mono HX5.out.size)
  have HB6 : Hid (Below w.heap.size w w6) := HB0.out.trans ((HA5.out.trans (hb6.mono HA5.out.size)).mono HB0.out.size)
  obtain ⟨j, hj⟩ : ∃ j, S.length = j := ⟨_, rfl⟩
  rw [hj] at hql s2
  rw [hql]
  have hj15 : j + 1 ≤ 1500 := by omega
  unfold maxLen at hcc2
  have hjc : j + 1 ≤ cc := by omega
  clear hmp hso hq hqe hb6 HM hj hql hqq HQ hl15 hcc1
  go_upto_region 5 with (fail)
  go_wp2_with fail
  refine (sameclause_eq [⟨1, 2, 1⟩] _ _ _ (HX.out _ (HX6.out.alloc HX6.out.size _)) (lit_made1 w6 1 2 1 _ rfl)).mono ?_
  rintro e w7 ⟨rfl, hd7⟩
  have hB7 : Below w6.heap.size w6 w7 := (below_alloc _ _).trans ((drawn_below hd7).mono (by simp))
  have t2 := (hB7.cell (p := ⟨g, j * 3 + 2, none⟩) hgl).trans s2
  have HB7 : Hid (Below w6.heap.size w6 w7) := hB7
  clear hd7 hB7 s2
  go_wp2_with fail
  refine (sameclause_eq [⟨1, 2, 1⟩] _ _ _ (HQ2.out _ HB7.out) (HX.out _ (HX6.out.trans (HB7.out.mono HX6.out.size)))).mono ?_
  rintro e w8 ⟨rfl, hd8⟩
  have HB8 : Hid (Below w.heap.size w w8) := HB6.out.trans ((HB7.out.trans ((drawn_below hd8).mono HB7.out.size)).mono HB6.out.size)
  clear hd8 t2
  go_wp2
  go_ret
  exact ⟨rfl, HB8.out⟩
end Go.Proofs.YtijohkhpigjbkaeGreatDoor
/-
  WALK: package model: Holds.
-/
namespace Go.Proofs.YtijohkhpigjbkaeGreatDoor
open Go.RowKit

set_option maxHeartbeats 1600000 in
set_option maxRecDepth 100000 in
theorem mholds_any (m : Mod) (con : Int) (vals : List Int) (vs cs v : Value) (w : World) (hm : MArg w vs cs m) (hv : IArg w v vals) :
    Calls Tryz.prog 22 #[modV vs cs m, .int .i64 con, v] w fun e w' => e = .returned (.tuple #[.bool (holdsA m con vals).1, .int .i64 (holdsA m con vals).2]) ∧ Below w.heap.size w w' := by
  have HMA : Hid (∀ w' : World, Below w.heap.size w w' → MArg w' vs cs m) := fun w' h => MArg.below h hm
  have HVA : Hid (∀ w' : World, Below w.heap.size w w' → IArg w' v vals) := fun w' h => IArg.below h hv
  obtain ⟨⟨a1, c1, rfl, _, _⟩, ⟨a2, c2, rfl, hl2, hr2⟩⟩ := hm
  obtain ⟨a3, c3, rfl, hl3, hr3⟩ := hv
  have HC : Hid (∀ (i : Nat) (t : MCon), m.cons[i]? = some t → ∃ b off vv vc vr vl, a2 = some ⟨b, off, none⟩ ∧ b < w.heap.size ∧
    w.cell? ⟨b, off + i * 6, none⟩ = some (.int .i64 t.kind) ∧ w.cell? ⟨b, off + i * 6 + 1, none⟩ = some vv ∧ w.cell? ⟨b, off + i * 6 + 2, none⟩ = some vc ∧
    w.cell? ⟨b, off + i * 6 + 3, none⟩ = some (.int .i64 t.n) ∧ w.cell? ⟨b, off + i * 6 + 4, none⟩ = some vr ∧ w.cell? ⟨b, off + i * 6 + 5, none⟩ = some vl ∧ KArg w vv vc vr vl t) := hr2
  have HV : Hid (∀ (i : Nat) (z : Int), vals[i]? = some z → ∃ b off, a3 = some ⟨b, off, none⟩ ∧ b < w.heap.size ∧ w.cell? ⟨b, off + i, none⟩ = some (.int .i64 z)) := hr3
  unfold maxLen at hl2 hl3
  obtain ⟨hl21, hl2⟩ := hl2
  obtain ⟨hl31, hl3⟩ := hl3
  obtain ⟨R, hR⟩ : ∃ R, holdsA m con vals = R := ⟨_, rfl⟩
  rw [hR]
  obtain ⟨er, her⟩ : ∃ er, conCheck m con = er := ⟨_, rfl⟩
  have HER : Hid (conCheck m con = er) := her
  have HE : Hid (R = if er = 0 then
    (if vals.length = m.vars.length then (if vals.all (fun x => inB x 50) then (holdsC (m.cons.getD con.toNat noCon) vals, 0) else (false, 3)) else (false, 1))
    else (false, er)) := by rw [← hR, ← her]; rfl
  clear hR her hr2 hr3
  unfold modV
  go_enter Tryz.func22, Tryz.ntmps22
  go_wp2_with fail
  refine (check_con m con (.slice a1 m.vars.length c1) (.slice a2 m.cons.length c2) _ ?_).mono ?_
  · exact HMA.out _ (below_alloc _ _)
  rintro e w1 ⟨rfl, hb1⟩
  rw [HER.out]
  have d0 : w1.cell? ⟨w.heap.size, 0, none⟩ = some (.slice a1 m.vars.length c1) := (hb1.cell (by simp)).trans (by simp)
  have d1 : w1.cell? ⟨w.heap.size, 1, none⟩ = some (.slice a2 m.cons.length c2) := (hb1.cell (by simp)).trans (by simp)
  have HB1 : Hid (Below w.heap.size w w1) := (below_alloc _ _).trans (hb1.mono (by simp))
  clear hb1
  by_cases he : er = 0
  · subst he
    obtain ⟨o1, o2, o3⟩ := conCheck_ok m con HER.out
    by_cases hl : vals.length = m.vars.length
    · have g0 : ((vals.length : Int) != (m.vars.length : Int)) = false := by simp [hl]
      have HL : Hid (vals.length = m.vars.length) := hl
      have HE2 : Hid (R = if vals.all (fun x => inB x 50) then (holdsC (m.cons.getD con.toNat noCon) vals, 0) else (false, 3)) := by rw [HE.out, if_pos rfl, if_pos hl]; rfl
      have HO1 : Hid (checkM m = 0) := o1
      clear hl o1
      go_wp2_with fail
      go_loop [25] (fun i => ∃ k : Nat, k ≤ vals.length ∧ i = .int .i64 k ∧ Hid ((vals.take k).all (fun x => inB x 50) = true)) (fun i => vals.length - (intOf i).toNat)
      case atStart => exact ⟨0, by omega, rfl, rfl⟩
      case round =>
        obtain ⟨k, hk, rfl, hall⟩ := hrel
        by_cases hlt : k < vals.length
        · obtain ⟨x, hx⟩ : ∃ x, vals[k]? = some x := ⟨vals[k], by simp [hlt]⟩
          obtain ⟨b, off, rfl, hb, e0⟩ := HV.out k x hx
          have e1 := (HB1.out.cell (p := ⟨b, off + k, none⟩) hb).trans e0
          have HX : Hid (vals[k]? = some x) := hx
          clear hx e0 hb
          cases hq : inB x 50
          · have HN : Hid (R = (false, 3)) := by rw [HE2.out, all_hit (fun x => inB x 50) vals k x HX.out hq]; rfl
            go_wp2_with fail
            refine (within_any _ 50 (by omega) (by omega) _).mono ?_
            rintro e w1 ⟨rfl, rfl⟩
            rw [hq]
            clear hq
            go_wp2
            go_ret2
            exact ⟨by rw [HN.out]; rfl, HB1.out⟩
          · have HN : Hid ((vals.take (k + 1)).all (fun x => inB x 50) = true) := all_next (fun x => inB x 50) vals k x HX.out hall.out hq
            go_wp2_with fail
            refine (within_any _ 50 (by omega) (by omega) _).mono ?_
            rintro e w1 ⟨rfl, rfl⟩
            rw [hq]
            clear hq
            go_wp2
            go_round
            case rel => exact ⟨k + 1, by omega, by go_num, HN⟩
            case measure => simp [intOf]; omega
        · have HA : Hid (vals.all (fun x => inB x 50) = true) := all_end _ vals k hlt hall.out
          obtain ⟨j, rfl⟩ : ∃ j : Nat, con = (j : Int) := ⟨con.toNat, by omega⟩
          have hjl : j < m.cons.length := by omega
          obtain ⟨c, hc⟩ : ∃ c, m.cons[j]? = some c := ⟨m.cons[j], by simp [hjl]⟩
          have HN : Hid (R = (holdsC c vals, 0)) := by
            rw [HE2.out, HA.out, if_pos rfl, Int.toNat_natCast, List.getD_eq_getElem?_getD, hc]; rfl
          obtain ⟨b, off, vv, vc, vr, vl, ha, hb, f0, f1, f2, f3, f4, f5, hka⟩ := HC.out j c hc
          subst ha
          have e0 := (HB1.out.cell (p := ⟨b, off + j * 6, none⟩) hb).trans f0
          have e1 := (HB1.out.cell (p := ⟨b, off + j * 6 + 1, none⟩) hb).trans f1
          have e2 := (HB1.out.cell (p := ⟨b, off + j * 6 + 2, none⟩) hb).trans f2
          have e3 := (HB1.out.cell (p := ⟨b, off + j * 6 + 3, none⟩) hb).trans f3
          have e4 := (HB1.out.cell (p := ⟨b, off + j * 6 + 4, none⟩) hb).trans f4
          have e5 := (HB1.out.cell (p := ⟨b, off + j * 6 + 5, none⟩) hb).trans f5
          have HK : Hid (KArg w1 vv vc vr vl c) := KArg.below HB1.out hka
          have HCE : Hid (conE vals.length c = 0) := by rw [HL.out]; exact con_ok m HO1.out j c hc
          have HBD : Hid (∀ x ∈ vals, -50 ≤ x ∧ x ≤ 50) := fun x hx => by
            have := List.all_eq_true.1 HA.out x hx
            simpa [inB] using this
          obtain ⟨⟨q1, r1, rfl, _, _⟩, ⟨q2, r2, rfl, _, _⟩, ⟨q3, r3, rfl, _, _⟩, ⟨q4, r4, rfl, _, _⟩⟩ := hka
          clear hc f0 f1 f2 f3 f4 f5 hb
          go_wp2_with fail
          refine (holds_any c vals _ _ _ _ _ _ HK.out (HVA.out _ HB1.out) HCE.out HBD.out).mono ?_
          rintro e w2 ⟨rfl, hb2⟩
          have hb3 : Below w.heap.size w w2 := HB1.out.trans (hb2.mono HB1.out.size)
          clear hb2
          go_wp2
          go_ret2
          exact ⟨by rw [HN.out]; rfl, hb3⟩
    · have g0 : ((vals.length : Int) != (m.vars.length : Int)) = true := by simp; omega
      have HN : Hid (R = (false, 1)) := by rw [HE.out, if_pos rfl, if_neg hl]; rfl
      clear hl
      go_wp2
      go_ret2
      exact ⟨by rw [HN.out]; rfl, HB1.out⟩
  · have HN : Hid (R = (false, er)) := by rw [HE.out, if_neg he]; rfl
    have he2 : (er != 0) = true := by simpa using he
    clear he
    go_wp2
    go_ret2
    exact ⟨by rw [HN.out]; rfl, HB1.out⟩
end Go.Proofs.YtijohkhpigjbkaeGreatDoor
/-
  WALK: package model: All.
-/
namespace Go.Proofs.YtijohkhpigjbkaeGreatDoor
open Go.RowKit

set_option maxHeartbeats 1600000 in
set_option maxRecDepth 100000 in
theorem mall_any (m : Mod) (vals : List Int) (vs cs v : Value) (w : World) (hm : MArg w vs cs m) (hv : IArg w v vals) :
    Calls Tryz.prog 37 #[modV vs cs m, v] w fun e w' => e = .returned (.tuple #[.bool (allA m vals).1, .int .i64 (allA m vals).2]) ∧ Below w.heap.size w w' := by
  have HMA : Hid (∀ w' : World, Below w.heap.size w w' → MArg w' vs cs m) := fun w' h => MArg.below h hm
  have HVA : Hid (∀ w' : World, Below w.heap.size w w' → IArg w' v vals) := fun w' h => IArg.below h hv
  obtain ⟨⟨a1, c1, rfl, hl1, hr1⟩, ⟨a2, c2, rfl, hl2, hr2⟩⟩ := hm
  obtain ⟨a3, c3, rfl, hl3, hr3⟩ := hv
  have HV1 : Hid (∀ (i : Nat) (t : MVar), m.vars[i]? = some t → t.name.size ≤ maxLen ∧ ∃ b off, a1 = some ⟨b, off, none⟩ ∧ b < w.heap.size ∧
    w.cell? ⟨b, off + i * 3, none⟩ = some (.string t.name) ∧ w.cell? ⟨b, off + i * 3 + 1, none⟩ = some (.int .i64 t.lo) ∧ w.cell? ⟨b, off + i * 3 + 2, none⟩ = some (.int .i64 t.hi)) := hr1
  have HC : Hid (∀ (i : Nat) (t : MCon), m.cons[i]? = some t → ∃ b off vv vc vr vl, a2 = some ⟨b, off, none⟩ ∧ b < w.heap.size ∧
    w.cell? ⟨b, off + i * 6, none⟩ = some (.int .i64 t.kind) ∧ w.cell? ⟨b, off + i * 6 + 1, none⟩ = some vv ∧ w.cell? ⟨b, off + i * 6 + 2, none⟩ = some vc ∧
    w.cell? ⟨b, off + i * 6 + 3, none⟩ = some (.int .i64 t.n) ∧ w.cell? ⟨b, off + i * 6 + 4, none⟩ = some vr ∧ w.cell? ⟨b, off + i * 6 + 5, none⟩ = some vl ∧ KArg w vv vc vr vl t) := hr2
  have HV : Hid (∀ (i : Nat) (z : Int), vals[i]? = some z → ∃ b off, a3 = some ⟨b, off, none⟩ ∧ b < w.heap.size ∧ w.cell? ⟨b, off + i, none⟩ = some (.int .i64 z)) := hr3
  unfold maxLen at hl1 hl2 hl3
  obtain ⟨hl11, hl1⟩ := hl1
  obtain ⟨hl21, hl2⟩ := hl2
  obtain ⟨hl31, hl3⟩ := hl3
  obtain ⟨R, hR⟩ : ∃ R, allA m vals = R := ⟨_, rfl⟩
  rw [hR]
  obtain ⟨er, her⟩ : ∃ er, checkM m = er := ⟨_, rfl⟩
  have HER : Hid (checkM m = er) := her
  have HE : Hid (R = if er = 0 then
    (if vals.length = m.vars.length then ((m.vars.zip vals).all (fun p => insideV p.1 p.2) && m.cons.all (fun c => holdsC c vals), 0) else (false, 1))
    else (false, er)) := by rw [← hR, ← her]; rfl
  clear hR her hr1 hr2 hr3
  unfold modV
  go_enter Tryz.func37, Tryz.ntmps37
  go_wp2_with fail
  refine (check_model m (.slice a1 m.vars.length c1) (.slice a2 m.cons.length c2) _ ?_).mono ?_
  · exact HMA.out _ (below_alloc _ _)
  rintro e w1 ⟨rfl, hb1⟩
  rw [HER.out]
  have d0 : w1.cell? ⟨w.heap.size, 0, none⟩ = some (.slice a1 m.vars.length c1) := (hb1.cell (by simp)).trans (by simp)
  have d1 : w1.cell? ⟨w.heap.size, 1, none⟩ = some (.slice a2 m.cons.length c2) := (hb1.cell (by simp)).trans (by simp)
  have HD1 : Hid (w1.cell? ⟨w.heap.size, 1, none⟩ = some (.slice a2 m.cons.length c2)) := d1
  have hs1 : w.heap.size + 1 ≤ w1.heap.size := by simpa using hb1.size
  have HB1 : Hid (Below w.heap.size w w1) := (below_alloc _ _).trans (hb1.mono (by simp))
  clear hb1
  by_cases he : er = 0
  · subst he
    by_cases hl : vals.length = m.vars.length
    · have g0 : ((vals.length : Int) != (m.vars.length : Int)) = false := by simp [hl]
      have HL : Hid (vals.length = m.vars.length) := hl
      have HE2 : Hid (R = ((m.vars.zip vals).all (fun p => insideV p.1 p.2) && m.cons.all (fun c => holdsC c vals), 0)) := by rw [HE.out, if_pos rfl, if_pos hl]; rfl
      clear hl
      go_wp2_with fail
      go_loopw [25] (fun i wr => ∃ k : Nat, k ≤ m.vars.length ∧ i = .int .i64 k ∧ Hid (((m.vars.zip vals).take k).all (fun p => insideV p.1 p.2) = true) ∧ Below w1.heap.size w1 wr) (fun i _ => m.vars.length - (intOf i).toNat)
      case atStart => exact ⟨0, by omega, rfl, rfl, Below.refl _ _⟩
      case round =>
        obtain ⟨k, hk, rfl, hall, hbw⟩ := hrel
        have HBW : Hid (Below w.heap.size w wr) := HB1.out.trans (hbw.mono (by omega))
        have HBW1 : Hid (Below w1.heap.size w1 wr) := hbw
        by_cases hlt : k < m.vars.length
        · have hlt' : k < vals.length := by rw [HL.out]; exact hlt
          obtain ⟨x, hx⟩ : ∃ x, vals[k]? = some x := ⟨vals[k], by simp [hlt']⟩
          obtain ⟨t, ht⟩ : ∃ t, m.vars[k]? = some t := ⟨m.vars[k], by simp [hlt]⟩
          have HG : Hid ((m.vars.zip vals)[k]? = some (t, x)) := by show _ = _; rw [List.getElem?_zip_eq_some]; exact ⟨ht, hx⟩
          obtain ⟨b, off, rfl, hb, e0⟩ := HV.out k x hx
          obtain ⟨_, b', off', rfl, hb', f0, f1, f2⟩ := HV1.out k t ht
          have e1 := (HBW.out.cell (p := ⟨b, off + k, none⟩) hb).trans e0
          have k0 := (HBW.out.cell (p := ⟨b', off' + k * 3, none⟩) hb').trans f0
          have k1 := (HBW.out.cell (p := ⟨b', off' + k * 3 + 1, none⟩) hb').trans f1
          have k2 := (HBW.out.cell (p := ⟨b', off' + k * 3 + 2, none⟩) hb').trans f2
          have hbr : b < wr.heap.size := Nat.lt_of_lt_of_le hb HBW.out.size
          clear hx ht e0 f0 f1 f2 hb hb' hbw
          by_cases q1 : x < t.lo
          · have HN : Hid (R = (false, 0)) := by
              have := all_hit (fun p : MVar × Int => insideV p.1 p.2) (m.vars.zip vals) k (t, x) HG.out (by simp [insideV, q1])
              rw [HE2.out, this]; rfl
            have q2 : decide (x < t.lo) = true := decide_eq_true q1
            go_wp2
            go_quiet (fail)
            go_wp2
            go_ret2
            exact ⟨by rw [HN.out]; rfl, below_drewN (HBW.out.trans ((below_alloc _ _).mono HBW.out.size)) _⟩
          · have q2 : decide (x < t.lo) = false := decide_eq_false q1
            by_cases q3 : t.hi < x
            · have HN : Hid (R = (false, 0)) := by
                have := all_hit (fun p : MVar × Int => insideV p.1 p.2) (m.vars.zip vals) k (t, x) HG.out (by simp [insideV, q3])
                rw [HE2.out, this]; rfl
              clear q1
              go_wp2
              go_quiet (fail)
              go_wp2
              go_ret2
              exact ⟨by rw [HN.out]; rfl, below_drewN (HBW.out.trans ((below_alloc _ _).mono HBW.out.size)) _⟩
            · have HN : Hid (((m.vars.zip vals).take (k + 1)).all (fun p => insideV p.1 p.2) = true) := all_next (fun p : MVar × Int => insideV p.1 p.2) (m.vars.zip vals) k (t, x) HG.out hall.out (by simp [insideV]; omega)
              have q4 : decide (t.hi < x) = false := decide_eq_false q3
              clear q1 q3
              go_wp2
              go_quiet (fail)
              go_wp2
              go_roundw
              case rel => exact ⟨k + 1, by omega, by go_num, HN, below_drewN (HBW1.out.alloc HBW1.out.size _) _⟩
              case measure => simp [intOf]; omega
        · have HA : Hid ((m.vars.zip vals).all (fun p => insideV p.1 p.2) = true) := all_end _ _ k (by rw [List.length_zip, HL.out]; omega) hall.out
          have HE3 : Hid (R = (m.cons.all (fun c => holdsC c vals), 0)) := by rw [HE2.out, HA.out, Bool.true_and]; rfl
          have HBD : Hid (∀ x ∈ vals, -50 ≤ x ∧ x ≤ 50) := by
            intro x hx
            obtain ⟨i, hi⟩ := List.mem_iff_getElem?.1 hx
            have hil : i < m.vars.length := by rw [← HL.out]; exact (List.getElem?_eq_some_iff.1 hi).1
            have ht : m.vars[i]? = some m.vars[i] := by simp [hil]
            have hvo := var_ok m HER.out i _ ht
            have := List.all_eq_true.1 HA.out (m.vars[i], x) (List.mem_of_getElem? (i := i) (by rw [List.getElem?_zip_eq_some]; exact ⟨ht, hi⟩))
            simp [insideV] at this
            omega
          have e1 : wr.cell? ⟨w.heap.size, 1, none⟩ = some (.slice a2 m.cons.length c2) := (hbw.cell (p := ⟨w.heap.size, 1, none⟩) (by simp only; omega)).trans d1
          obtain ⟨wo, rfl⟩ : ∃ wo : World, wo = wr := ⟨_, rfl⟩
          go_wp2
          clear hk hall hbw hlt e1
          go_loopw [50] (fun i wr => ∃ k : Nat, k ≤ m.cons.length ∧ i = .int .i64 k ∧ Hid ((m.cons.take k).all (fun c => holdsC c vals) = true) ∧ Below w.heap.size w wr) (fun i _ => m.cons.length - (intOf i).toNat)
          case atStart => exact ⟨0, by omega, rfl, rfl, HBW.out⟩
          case round =>
            obtain ⟨j, hj, rfl, hall, hbw⟩ := hrel
            have HBR : Hid (Below w.heap.size w wr) := hbw
            clear hbw
            by_cases hlt : j < m.cons.length
            · obtain ⟨c, hc⟩ : ∃ c, m.cons[j]? = some c := ⟨m.cons[j], by simp [hlt]⟩
              have HCC : Hid (m.cons[j]? = some c) := hc
              obtain ⟨b, off, vv, vc, vr, vl, ha, hb, f0, f1, f2, f3, f4, f5, hka⟩ := HC.out j c hc
              subst ha
              have e0 := (HBR.out.cell (p := ⟨b, off + j * 6, none⟩) hb).trans f0
              have e1 := (HBR.out.cell (p := ⟨b, off + j * 6 + 1, none⟩) hb).trans f1
              have e2 := (HBR.out.cell (p := ⟨b, off + j * 6 + 2, none⟩) hb).trans f2
              have e3 := (HBR.out.cell (p := ⟨b, off + j * 6 + 3, none⟩) hb).trans f3
              have e4 := (HBR.out.cell (p := ⟨b, off + j * 6 + 4, none⟩) hb).trans f4
              have e5 := (HBR.out.cell (p := ⟨b, off + j * 6 + 5, none⟩) hb).trans f5
              have HK : Hid (KArg wr vv vc vr vl c) := KArg.below HBR.out hka
              have HCE : Hid (conE vals.length c = 0) := by rw [HL.out]; exact con_ok m HER.out j c hc
              obtain ⟨⟨q1, r1, rfl, _, _⟩, ⟨q2, r2, rfl, _, _⟩, ⟨q3, r3, rfl, _, _⟩, ⟨q4, r4, rfl, _, _⟩⟩ := hka
              clear hc f0 f1 f2 f3 f4 f5 hb
              cases hq : holdsC c vals
              · have HN : Hid (R = (false, 0)) := by rw [HE3.out, all_hit (fun c => holdsC c vals) m.cons j c HCC.out hq]; rfl
                go_wp2_with fail
                refine (holds_any c vals _ _ _ _ _ _ (KArg.below (below_alloc _ _) HK.out) (HVA.out _ (HBR.out.trans ((below_alloc _ _).mono HBR.out.size))) HCE.out HBD.out).mono ?_
                rintro e w2 ⟨rfl, hb2⟩
                rw [hq]
                have hb3 : Below w.heap.size w w2 := (HBR.out.trans ((below_alloc _ _).mono HBR.out.size)).trans (hb2.mono (by have := HBR.out.size; simp; omega))
                clear hb2 hq
                go_wp2
                go_ret2
                exact ⟨by rw [HN.out]; rfl, hb3⟩
              · have HN : Hid ((m.cons.take (j + 1)).all (fun c => holdsC c vals) = true) := all_next (fun c => holdsC c vals) m.cons j c HCC.out hall.out hq
                go_wp2_with fail
                refine (holds_any c vals _ _ _ _ _ _ (KArg.below (below_alloc _ _) HK.out) (HVA.out _ (HBR.out.trans ((below_alloc _ _).mono HBR.out.size))) HCE.out HBD.out).mono ?_
                rintro e w2 ⟨rfl, hb2⟩
                rw [hq]
                have hb3 : Below w.heap.size w w2 := (HBR.out.trans ((below_alloc _ _).mono HBR.out.size)).trans (hb2.mono (by have := HBR.out.size; simp; omega))
                clear hb2 hq
                go_wp2
                go_roundw
                case rel => exact ⟨j + 1, by omega, by go_num, HN, hb3⟩
                case measure => simp [intOf]; omega
            · have HN : Hid (R = (true, 0)) := by rw [HE3.out, all_end _ m.cons j hlt hall.out]; rfl
              go_wp2
              go_ret2
              exact ⟨by rw [HN.out]; rfl, HBR.out⟩
    · have g0 : ((vals.length : Int) != (m.vars.length : Int)) = true := by simp; omega
      have HN : Hid (R = (false, 1)) := by rw [HE.out, if_pos rfl, if_neg hl]; rfl
      clear hl
      go_wp2
      go_ret2
      exact ⟨by rw [HN.out]; rfl, HB1.out⟩
  · have HN : Hid (R = (false, er)) := by rw [HE.out, if_neg he]; rfl
    have he2 : (er != 0) = true := by simpa using he
    clear he
    go_wp2
    go_ret2
    exact ⟨by rw [HN.out]; rfl, HB1.out⟩
end Go.Proofs.YtijohkhpigjbkaeGreatDoor
/-
  WALK: modelBegun.
-/
namespace Go.Proofs.YtijohkhpigjbkaeGreatDoor
open Go.RowKit

theorem two_holds : holdsA twoM 0 [0, 1] = (true, 0) := by kernel_rfl
theorem two_all : allA twoM [2, 1] = (false, 0) := by kernel_rfl
theorem sort01 : sortI [0, 1] = [0, 1] := by
  unfold sortI
  exact List.mergeSort_of_pairwise (by decide)
theorem two_scope : scopeA twoM 0 = ([0, 1], 0) := by
  have h0 : conCheck twoM 0 = 0 := by kernel_rfl
  unfold scopeA
  rw [if_pos h0]
  have h1 : scopeL (twoM.cons.getD (0 : Int).toNat noCon) = [0, 1] := by rfl
  unfold scopeC
  rw [h1, sort01]
  decide
/-- A list of two, written out. -/
theorem ilit2 {w : World} (a b : Int) (B : Nat) (h : B = w.heap.size) : IArg (w.alloc (.cells #[.int .i64 a, .int .i64 b] 3)) (.slice (some ⟨B, 0, none⟩) 2 2) [a, b] := by
  subst h
  refine ⟨_, 2, rfl, ⟨by simp, by unfold maxLen; omega⟩, fun i z hz => ?_⟩
  match i, hz with
  | 0, hz => cases hz; exact ⟨_, 0, rfl, by simp, by simp⟩
  | 1, hz => cases hz; exact ⟨_, 0, rfl, by simp, by simp⟩

set_option maxHeartbeats 1600000 in
set_option maxRecDepth 100000 in
theorem begun_model (w : World) :
    Calls Tryz.prog 20 #[] w fun e w' => e = .returned (.bool true) ∧ Below w.heap.size w w' := by
  go_enter Tryz.func20, Tryz.ntmps20
  go_wp2_with fail
  refine (two_any _).mono ?_
  rintro e w1 ⟨vs, cs, rfl, hm, hb1⟩
  have HM : Hid (MArg w1 vs cs twoM) := hm
  clear hm
  go_wp2_with fail
  refine (mholds_any twoM 0 [0, 1] vs cs _ _ (MArg.below (below_alloc _ _) HM.out) (ilit2 0 1 _ rfl)).mono ?_
  rintro e w2 ⟨rfl, hb2⟩
  rw [two_holds]
  have hs1 := hb1.size
  have hB2 : Below w.heap.size w w2 := (hb1.alloc hs1 _).trans (hb2.mono (by simp; omega))
  clear hb1 hb2 HM hs1
  go_wp2_with fail
  refine (two_any _).mono ?_
  rintro e w3 ⟨vs, cs, rfl, hm, hb3⟩
  have HM : Hid (MArg w3 vs cs twoM) := hm
  clear hm
  go_wp2_with fail
  refine (mall_any twoM [2, 1] vs cs _ _ (MArg.below (below_alloc _ _) HM.out) (ilit2 2 1 _ rfl)).mono ?_
  rintro e w4 ⟨rfl, hb4⟩
  rw [two_all]
  have hs2 := hB2.size
  have hs3 := hb3.size
  have hB4 : Below w.heap.size w w4 := hB2.trans ((((hb3.alloc hs3 _).trans (hb4.mono (by simp; omega)))).mono hs2)
  clear hb3 hb4 HM hs2 hs3 hB2
  go_wp2_with fail
  refine (two_any _).mono ?_
  rintro e w5 ⟨vs, cs, rfl, hm, hb5⟩
  go_wp2_with fail
  refine (mscope_any twoM 0 vs cs _ hm).mono ?_
  rintro e w6 ⟨x, rfl, hx, hb6⟩
  rw [two_scope] at hx ⊢
  have HX : Hid (∀ w' : World, Below w6.heap.size w6 w' → IArg w' x [0, 1]) := fun w' h => IArg.below h hx
  obtain ⟨a6, c6, rfl, _, _⟩ := hx
  have hs4 := hB4.size
  have hs5 := hb5.size
  have hB6 : Below w.heap.size w w6 := hB4.trans ((hb5.trans (hb6.mono hs5)).mono hs4)
  clear hb5 hb6 hm hs4 hs5 hB4
  go_wp2_with fail
  refine (two_any _).mono ?_
  rintro e w7 ⟨vs, cs, rfl, hm, hb7⟩
  go_wp2_with fail
  refine (check_model twoM vs cs _ hm).mono ?_
  rintro e w8 ⟨rfl, hb8⟩
  rw [two_checks]
  have hs7 := hb7.size
  have hB8 : Below w6.heap.size w6 w8 := hb7.trans (hb8.mono hs7)
  have hs8 := hB8.size
  clear hb7 hb8 hm hs7
  go_wp2_with fail
  refine (sameints_any [0, 1] [0, 1] _ _ _ (HX.out _ (hB8.alloc hs8 _)) (ilit2 0 1 _ rfl)).mono ?_
  rintro e w9 ⟨rfl, n, h9⟩
  rw [show decide (([0, 1] : List Int) = [0, 1]) = true from by decide]
  have hB9 : Below w.heap.size w w9 := hB6.trans (((hB8.alloc hs8 _).trans ((draws0 h9).mono (by simp; omega))).mono hB6.size)
  clear h9
  go_wp2
  go_ret
  exact ⟨rfl, hB9⟩
end Go.Proofs.YtijohkhpigjbkaeGreatDoor
/-
  WALKS: package store: Begin.
-/
namespace Go.Proofs.YtijohkhpigjbkaeGreatDoor
open Go.RowKit

def spanN (lo : Int) (j : Nat) : List Int := (List.range j).map fun (k : Nat) => lo + (k : Int)
theorem spanN_next (lo : Int) (j : Nat) : spanN lo (j + 1) = spanN lo j ++ [lo + j] := by simp [spanN, List.range_succ]
theorem spanN_len (lo : Int) (j : Nat) : (spanN lo j).length = j := by simp [spanN]
theorem spanR_eq (lo hi : Int) : spanR lo hi = spanN lo (hi + 1 - lo).toNat := rfl
theorem checkL_nil (m : Mod) : checkL m [] = checkM m := by
  unfold checkL; simp only [List.map_nil, firstE]
  by_cases h : checkM m = 0
  · rw [if_pos h, h]
  · rw [if_neg h]
def beginA (m : Mod) : Sto × Int := if checkM m = 0 then (beginS m.vars, 0) else ([], checkM m)

end Go.Proofs.YtijohkhpigjbkaeGreatDoor
/-
  WALK: the reference's SameStore.
-/
namespace Go.Proofs.YtijohkhpigjbkaeGreatDoor
open Go.RowKit

set_option maxHeartbeats 800000 in
set_option maxRecDepth 100000 in
theorem samestore_any (s t : Sto) (v u : Value) (w : World) (hv : RArg w v s) (hu : RArg w u t) :
    Calls Tryz.prog 44 #[v, u] w fun e w' => e = .returned (.bool (decide (s = t))) ∧ ∃ n, w' = w.drewN n := by
  obtain ⟨a, c, rfl, hm, hr⟩ := hv
  obtain ⟨a', c', rfl, hm', hr'⟩ := hu
  have HV : Hid (∀ (i : Nat) (r : List Int), s[i]? = some r → ∃ b off x, a = some ⟨b, off, none⟩ ∧ b < w.heap.size ∧ w.cell? ⟨b, off + i, none⟩ = some x ∧ IArg w x r) := hr
  have HV' : Hid (∀ (i : Nat) (r : List Int), t[i]? = some r → ∃ b off x, a' = some ⟨b, off, none⟩ ∧ b < w.heap.size ∧ w.cell? ⟨b, off + i, none⟩ = some x ∧ IArg w x r) := hr'
  obtain ⟨R, hR⟩ : ∃ R, decide (s = t) = R := ⟨_, rfl⟩
  rw [hR]
  have HR : Hid (decide (s = t) = R) := hR
  unfold maxLen at hm hm'
  obtain ⟨hm1, hm⟩ := hm
  obtain ⟨hm1', hm'⟩ := hm'
  clear hr hr' hR
  by_cases hl : s.length = t.length
  · have HL : Hid (s.length = t.length) := hl
    have g0 : ((s.length : Int) != (t.length : Int)) = false := by simp [hl]
    clear hl
    go_enter Tryz.func44, Tryz.ntmps44
    go_wp2_with fail
    go_loopw [5] (fun i wr => ∃ m : Nat, m ≤ s.length ∧ i = .int .i64 m ∧ Hid (s.take m = t.take m) ∧ ∃ n, wr = w.drewN n) (fun i _ => s.length - (intOf i).toNat)
    case atStart => exact ⟨0, by omega, rfl, rfl, 0, rfl⟩
    case round =>
      obtain ⟨m, hml, rfl, hall, nq, rfl⟩ := hrel
      by_cases hlt : m < s.length
      · have hlt' : m < t.length := by rw [← HL.out]; exact hlt
        obtain ⟨x, hx⟩ : ∃ x, s[m]? = some x := ⟨s[m], by simp [hlt]⟩
        obtain ⟨y, hy⟩ : ∃ y, t[m]? = some y := ⟨t[m], by simp [hlt']⟩
        obtain ⟨b, off, vx, ha, hb, hc, hix⟩ := HV.out m x hx
        obtain ⟨b', off', vy, ha', hb', hd, hiy⟩ := HV'.out m y hy
        have HX : Hid (s[m]? = some x) := hx
        have HY : Hid (t[m]? = some y) := hy
        have HIX : Hid (IArg w vx x) := hix
        have HIY : Hid (IArg w vy y) := hiy
        obtain ⟨a5, c5, rfl, _, _⟩ := hix
        obtain ⟨a6, c6, rfl, _, _⟩ := hiy
        subst ha; subst ha'
        clear hx hy
        have HS : Hid (∀ p q, Calls Tryz.prog 61 #[.slice a5 x.length c5, .slice a6 y.length c6] (w.drewN (p + q)) fun e w' => e = .returned (.bool (decide (x = y))) ∧ ∃ n, w' = w.drewN (p + n)) := by
          intro p q
          refine (sameints_any x y _ _ (w.drewN (p + q)) HIX.out HIY.out).mono ?_
          rintro e w' ⟨rfl, n, rfl⟩
          exact ⟨rfl, q + n, by rw [drewN_drewN, Nat.add_assoc]⟩
        by_cases hq : x = y
        · have hq2 : decide (x = y) = true := decide_eq_true hq
          have HN : Hid (s.take (m + 1) = t.take (m + 1)) := take_same s t m x hall.out HX.out (by rw [hq]; exact HY.out)
          rw [hq2] at HS
          clear hq hq2
          go_wp2
          go_quiet ((go_at_call 61; exact HS.out _ _))
          go_wp2
          go_roundw
          case rel => exact ⟨m + 1, by omega, by go_num, HN, _, rfl⟩
          case measure => simp [intOf]; omega
        · have hq2 : decide (x = y) = false := decide_eq_false hq
          have HN : Hid (R = false) := by rw [← HR.out]; exact decide_eq_false (not_same s t m x y HX.out HY.out hq)
          rw [hq2] at HS
          clear hq hq2
          go_wp2
          go_quiet ((go_at_call 61; exact HS.out _ _))
          go_wp2
          go_ret
          exact ⟨ret_bool HN.out.symm, _, drewN_drewN _ _ _⟩
      · have HN : Hid (R = true) := by rw [← HR.out]; exact decide_eq_true (same_end s t m hall.out hlt HL.out)
        go_wp2
        go_ret
        exact ⟨ret_bool HN.out.symm, _, rfl⟩
  · have HN : Hid (R = false) := by rw [← HR.out]; exact decide_eq_false (fun h => hl (by rw [h]))
    have g0 : ((s.length : Int) != (t.length : Int)) = true := by simp; omega
    clear hl
    go_enter Tryz.func44, Tryz.ntmps44
    go_wp2
    go_ret
    exact ⟨ret_bool HN.out.symm, 0, rfl⟩
end Go.Proofs.YtijohkhpigjbkaeGreatDoor
/-
  WALK: storeBegun.
-/
namespace Go.Proofs.YtijohkhpigjbkaeGreatDoor
open Go.RowKit

/-- A store of two rows, written out. -/
theorem lit2 {w : World} (a b : List Int) (B1 B2 B3 : Nat) (h1 : B1 = w.heap.size) (h2 : B2 = w.heap.size + 1) (h3 : B3 = w.heap.size + 2) (ha : a.length ≤ 100) (hb : b.length ≤ 100) :
    RArg (((w.alloc (.cells (a.map (Value.int .i64)).toArray 3)).alloc (.cells (b.map (Value.int .i64)).toArray 3)).alloc (.cells #[.slice (some ⟨B1, 0, none⟩) a.length a.length, .slice (some ⟨B2, 0, none⟩) b.length b.length] 39)) (.slice (some ⟨B3, 0, none⟩) 2 2) [a, b] := by
  subst h1; subst h2; subst h3
  refine ⟨_, 2, rfl, ⟨by simp, by unfold maxLen; omega⟩, fun i r hr => ?_⟩
  match i, hr with
  | 0, hr =>
    cases hr
    refine ⟨_, 0, _, rfl, by simp, World.cell?_alloc_at _ _ _ _ (by simp), ⟨_, _, rfl, ⟨Nat.le_refl _, by unfold maxLen; omega⟩, fun j z hz => ⟨_, 0, rfl, by simp; omega, ?_⟩⟩⟩
    rw [World.cell?_alloc_past _ _ _ (by simp; omega), World.cell?_alloc_past _ _ _ (by simp), World.cell?_alloc_at _ _ _ _ rfl]
    simp [hz]
  | 1, hr =>
    cases hr
    refine ⟨_, 0, _, rfl, by simp, World.cell?_alloc_at _ _ _ _ (by simp), ⟨_, _, rfl, ⟨Nat.le_refl _, by unfold maxLen; omega⟩, fun j z hz => ⟨_, 0, rfl, by simp, ?_⟩⟩⟩
    rw [World.cell?_alloc_past _ _ _ (by simp), World.cell?_alloc_at _ _ _ _ (by simp)]
    simp [hz]

theorem below3 (w : World) (o1 o2 o3 : Obj) : Below w.heap.size w (((w.alloc o1).alloc o2).alloc o3) := ((below_alloc _ _).alloc (by simp) _).alloc (by simp; omega) _
theorem two_begin : beginA twoM = ([[0, 1, 2], [0, 1, 2]], 0) := by unfold beginA; rw [if_pos two_checks]; rfl
theorem two_meet : meetA twoM [[0, 1, 2], [0, 1, 2]] [[1], [0, 2]] = ([[1], [0, 2]], 0) := by
  have h : checkL twoM [[[0, 1, 2], [0, 1, 2]], [[1], [0, 2]]] = 0 := by unfold checkL; rw [if_pos two_checks]; decide
  unfold meetA; rw [if_pos h]; rfl
theorem two_within : withinA twoM [[1], [0, 2]] [[0, 1, 2], [0, 1, 2]] = (true, 0) := by
  have h : checkL twoM [[[1], [0, 2]], [[0, 1, 2], [0, 1, 2]]] = 0 := by unfold checkL; rw [if_pos two_checks]; decide
  unfold withinA; rw [if_pos h]; decide
theorem two_failed : failedA twoM [[0, 1, 2], [0, 1, 2]] = (false, 0) := by
  have h : checkL twoM [[[0, 1, 2], [0, 1, 2]]] = 0 := by unfold checkL; rw [if_pos two_checks]; decide
  unfold failedA; rw [if_pos h]; decide
theorem two_check : checkL twoM [[[1], [0, 2]]] = 0 := by unfold checkL; rw [if_pos two_checks]; decide

end Go.Proofs.YtijohkhpigjbkaeGreatDoor
/-
  WALK: clauseBegun.
-/
namespace Go.Proofs.YtijohkhpigjbkaeGreatDoor
open Go.RowKit

def begC : Cla := [⟨0, 3, 2⟩, ⟨1, 2, 1⟩]
theorem lits_new (w : World) : LArg (w.alloc (.cells #[.int .i64 0, .int .i64 3, .int .i64 2, .int .i64 1, .int .i64 2, .int .i64 1] 42)) (.slice (some ⟨w.heap.size, 0, none⟩) 2 2) begC := by
  refine ⟨_, 2, rfl, ⟨by simp [begC], by unfold maxLen; omega⟩, fun i t ht => ?_⟩
  match i, ht with
  | 0, ht =>
    cases ht
    exact ⟨_, 0, rfl, by simp, World.cell?_alloc_at _ _ _ 0 (by simp), World.cell?_alloc_at _ _ _ 1 (by simp), World.cell?_alloc_at _ _ _ 2 (by simp)⟩
  | 1, ht =>
    cases ht
    exact ⟨_, 0, rfl, by simp, World.cell?_alloc_at _ _ _ 3 (by simp), World.cell?_alloc_at _ _ _ 4 (by simp), World.cell?_alloc_at _ _ _ 5 (by simp)⟩
theorem beg_in : cinE twoM [[0, 1], [0, 1, 2]] begC = 0 := by
  have h : checkL twoM [[[0, 1], [0, 1, 2]]] = 0 := by unfold checkL; rw [if_pos two_checks]; decide
  unfold cinE; rw [if_pos h]; decide
theorem beg_check : ccheckA twoM begC = 0 := by unfold ccheckA; rw [if_pos two_checks]; decide
theorem beg_holds : choldsA twoM begC [0, 1] = (true, 0) := by unfold choldsA; rw [if_pos beg_check]; decide
theorem beg_unit : cunitA twoM [[0, 1], [0, 1, 2]] begC = ([[0, 1], [1, 2]], 0) := by unfold cunitA; rw [if_pos beg_in]; decide
theorem beg_deny : cdenyA twoM [[0, 1], [0, 1, 2]] begC = ([[0, 1], [0]], 0) := by unfold cdenyA; rw [if_pos beg_in]; decide
theorem ints2 (w : World) (a b : Int) : IArg (w.alloc (.cells #[.int .i64 a, .int .i64 b] 3)) (.slice (some ⟨w.heap.size, 0, none⟩) 2 2) [a, b] := by
  refine ⟨_, 2, rfl, ⟨by simp, by unfold maxLen; omega⟩, fun i z hz => ?_⟩
  match i, hz with
  | 0, hz => cases hz; exact ⟨_, 0, rfl, by simp, World.cell?_alloc_at _ _ _ 0 (by simp)⟩
  | 1, hz => cases hz; exact ⟨_, 0, rfl, by simp, World.cell?_alloc_at _ _ _ 1 (by simp)⟩

set_option maxHeartbeats 1600000 in
set_option maxRecDepth 100000 in
theorem begun_clause (w : World) :
    Calls Tryz.prog 21 #[] w fun e w' => e = .returned (.bool true) ∧ Below w.heap.size w w' := by
  go_enter Tryz.func21, Tryz.ntmps21
  go_wp2_with fail
  refine (two_any _).mono ?_
  rintro e w1 ⟨vs, cs, rfl, hm, hb1⟩
  have HL : Hid (∀ w' : World, Below w1.heap.size w1 w' → LArg w' (.slice (some ⟨w.heap.size, 0, none⟩) 2 2) begC) := fun w' h => LArg.below (hb1.trans (h.mono hb1.size)) (LArg.below (below3 _ _ _ _) (lits_new w))
  have HS : Hid (∀ w' : World, Below w1.heap.size w1 w' → RArg w' (.slice (some ⟨w.heap.size + 1 + 1 + 1, 0, none⟩) 2 2) [[0, 1], [0, 1, 2]]) := fun w' h => RArg.below (hb1.trans (h.mono hb1.size)) (lit2 [0, 1] [0, 1, 2] _ _ _ (by simp) (by simp) (by simp) (by decide) (by decide))
  have HM : Hid (∀ w' : World, Below w1.heap.size w1 w' → MArg w' vs cs twoM) := fun w' h => MArg.below h hm
  have HB1 : Hid (Below w.heap.size w w1) := (((below3 _ _ _ _).alloc (by simp; omega) _).trans (hb1.mono (by simp; omega)))
  clear hm hb1
  go_wp2_with fail
  refine (cholds_any twoM begC [0, 1] _ _ _ _ _ (HM.out _ (below_alloc _ _)) (HL.out _ (below_alloc _ _)) (ints2 _ 0 1)).mono ?_
  rintro e w2 ⟨rfl, hb2⟩
  rw [beg_holds]
  have HB2 : Hid (Below w1.heap.size w1 w2) := (below_alloc _ _).trans (hb2.mono (by simp))
  clear hb2 HM
  go_wp2_with fail
  refine (two_any _).mono ?_
  rintro e w3 ⟨vs, cs, rfl, hm, hb3⟩
  have HB3 : Hid (Below w1.heap.size w1 w3) := HB2.out.trans (hb3.mono HB2.out.size)
  have HM : Hid (MArg w3 vs cs twoM) := hm
  clear hm hb3 HB2
  go_wp2_with fail
  refine (cunit_any twoM [[0, 1], [0, 1, 2]] begC _ _ _ _ _ HM.out (HS.out _ HB3.out) (HL.out _ HB3.out)).mono ?_
  rintro e w4 ⟨x, rfl, hx, hb4⟩
  rw [beg_unit] at hx ⊢
  have HX : Hid (∀ w' : World, Below w4.heap.size w4 w' → RArg w' x [[0, 1], [1, 2]]) := fun w' h => RArg.below h hx
  obtain ⟨ax, cx, rfl, _, _⟩ := hx
  have HB4 : Hid (Below w1.heap.size w1 w4) := HB3.out.trans (hb4.mono HB3.out.size)
  clear hb4 HB3 HM
  go_wp2_with fail
  refine (two_any _).mono ?_
  rintro e w5 ⟨vs, cs, rfl, hm, hb5⟩
  have HB5 : Hid (Below w1.heap.size w1 w5) := HB4.out.trans (hb5.mono HB4.out.size)
  have HM : Hid (MArg w5 vs cs twoM) := hm
  have HB45 : Hid (Below w4.heap.size w4 w5) := hb5
  clear hm hb5 HB4
  go_wp2_with fail
  refine (cdeny_any twoM [[0, 1], [0, 1, 2]] begC _ _ _ _ _ HM.out (HS.out _ HB5.out) (HL.out _ HB5.out)).mono ?_
  rintro e w6 ⟨y, rfl, hy, hb6⟩
  rw [beg_deny] at hy ⊢
  have HY : Hid (∀ w' : World, Below w6.heap.size w6 w' → RArg w' y [[0, 1], [0]]) := fun w' h => RArg.below h hy
  obtain ⟨ay, cy, rfl, _, _⟩ := hy
  have HB6 : Hid (Below w1.heap.size w1 w6) := HB5.out.trans (hb6.mono HB5.out.size)
  have HB46 : Hid (Below w4.heap.size w4 w6) := HB45.out.trans (hb6.mono HB45.out.size)
  clear hb6 HB5 HM HB45
  go_wp2_with fail
  refine (two_any _).mono ?_
  rintro e w7 ⟨vs, cs, rfl, hm, hb7⟩
  have HB67 : Hid (Below w6.heap.size w6 w7) := hb7
  have HM : Hid (MArg w7 vs cs twoM) := hm
  clear hm hb7
  go_wp2_with fail
  refine (ccheck_any twoM begC _ _ _ _ HM.out (HL.out _ (HB6.out.trans (HB67.out.mono HB6.out.size)))).mono ?_
  rintro e w8 ⟨rfl, hb8⟩
  rw [beg_check]
  have HB68 : Hid (Below w6.heap.size w6 w8) := HB67.out.trans (hb8.mono HB67.out.size)
  clear hb8 HM HB67
  go_wp2_with fail
  refine (samestore_any [[0, 1], [1, 2]] [[0, 1], [1, 2]] _ _ _ (HX.out _ ?_) (lit2 [0, 1] [1, 2] _ _ _ rfl rfl rfl (by decide) (by decide))).mono ?_
  · exact HB46.out.trans ((HB68.out.trans ((below3 _ _ _ _).mono HB68.out.size)).mono HB46.out.size)
  rintro e w9 ⟨rfl, n9, h9⟩
  rw [show decide (([[0, 1], [1, 2]] : Sto) = [[0, 1], [1, 2]]) = true from by decide]
  have HB69 : Hid (Below w6.heap.size w6 w9) := HB68.out.trans (((below3 _ _ _ _).trans ((draws_below h9).mono (by simp; omega))).mono HB68.out.size)
  clear h9
  go_wp2_with fail
  refine (samestore_any [[0, 1], [0]] [[0, 1], [0]] _ _ _ (HY.out _ ?_) (lit2 [0, 1] [0] _ _ _ rfl rfl rfl (by decide) (by decide))).mono ?_
  · exact HB69.out.trans ((below3 _ _ _ _).mono HB69.out.size)
  rintro e wa ⟨rfl, na, ha⟩
  rw [show decide (([[0, 1], [0]] : Sto) = [[0, 1], [0]]) = true from by decide]
  have hBa : Below w.heap.size w wa := HB1.out.trans ((HB6.out.trans ((HB69.out.trans (((below3 _ _ _ _).trans ((draws_below ha).mono (by simp; omega))).mono HB69.out.size)).mono HB6.out.size)).mono HB1.out.size)
  clear ha
  go_wp2
  go_ret
  exact ⟨rfl, hBa⟩
end Go.Proofs.YtijohkhpigjbkaeGreatDoor
/-
  WALK: LearnHolds.
-/
namespace Go.Proofs.YtijohkhpigjbkaeGreatDoor
open Go.RowKit

set_option maxHeartbeats 3200000 in
set_option maxRecDepth 100000 in
theorem lholds_law (m : Mod) (l : List Cla) (d : Cla) (vals : List Int) (vs cs ul ud u : Value) (w : World) (hma : MArg w vs cs m) (hul : LLArg w ul l) (hud : LArg w ud d) (hu : IArg w u vals) (hT : TabT w) :
    Calls Tryz.prog 8 #[modV vs cs m, ul, ud, u] w fun e w' => e = .returned (.bool true) ∧ Below w.heap.size w w' := by
  have HMA : Hid (∀ w', Below w.heap.size w w' → MArg w' vs cs m) := fun w' h => MArg.below h hma
  have HL : Hid (∀ w', Below w.heap.size w w' → LLArg w' ul l) := fun w' h => LLArg.below h hul
  have HD : Hid (∀ w', Below w.heap.size w w' → LArg w' ud d) := fun w' h => LArg.below h hud
  have HV : Hid (∀ w', Below w.heap.size w w' → IArg w' u vals) := fun w' h => IArg.below h hu
  have HT : Hid (∀ w', Below w.heap.size w w' → TabT w') := fun w' h => hT.below h
  obtain ⟨⟨a1, c1, rfl, _, _⟩, ⟨a2, c2, rfl, _, _⟩⟩ := hma
  obtain ⟨a3, c3, rfl, _, _⟩ := hul
  obtain ⟨a4, c4, rfl, _, _⟩ := hud
  obtain ⟨a5, c5, rfl, _, _⟩ := hu
  unfold modV
  clear hT
  go_enter Tryz.func8, Tryz.ntmps8
  go_wp2_with fail
  refine (begun_learn _ (HT.out _ (below_alloc _ _))).mono ?_
  rintro e w1 ⟨rfl, hb1⟩
  go_wp2_with fail
  refine (begun_model _).mono ?_
  rintro e w2 ⟨rfl, hb2⟩
  go_wp2_with fail
  refine (begun_clause _).mono ?_
  rintro e w3 ⟨rfl, hb3⟩
  have HMB : Hid (w3.heap[w.heap.size]? = some (.cells #[.slice a1 m.vars.length c1, .slice a2 m.cons.length c2, .int .i64 m.goal, .int .i64 m.var] 25)) := by
    have h0 : w.heap.size < (w.alloc (.cells #[.slice a1 m.vars.length c1, .slice a2 m.cons.length c2, .int .i64 m.goal, .int .i64 m.var] 25)).heap.size := by simp
    have h1 := hb1.size
    have h2 := hb2.size
    exact (hb3.block _ (by omega)).trans ((hb2.block _ (by omega)).trans ((hb1.block _ h0).trans (heap_alloc_new w _)))
  have HB3 : Hid (Below w.heap.size w w3) := by
    have hx := hb1.trans ((hb2.trans (hb3.mono hb2.size)).mono hb1.size)
    exact (below_alloc _ _).trans (hx.mono (by simp))
  have HQ : Hid (∀ Y, Below w3.heap.size w3 Y → Y.cell? ⟨w.heap.size, 0, none⟩ = some (.slice a1 m.vars.length c1) ∧ Y.cell? ⟨w.heap.size, 1, none⟩ = some (.slice a2 m.cons.length c2) ∧ Y.cell? ⟨w.heap.size, 2, none⟩ = some (.int .i64 m.goal) ∧ Y.cell? ⟨w.heap.size, 3, none⟩ = some (.int .i64 m.var)) := fun Y hY => by
    have h := (hY.block _ (Array.getElem?_eq_some_iff.1 HMB.out).1).trans HMB.out
    exact ⟨blk9 h 0 _ rfl, blk9 h 1 _ rfl, blk9 h 2 _ rfl, blk9 h 3 _ rfl⟩
  have HTO : Hid (∀ Y, Below w3.heap.size w3 Y → Below w.heap.size w Y) := fun Y hY => HB3.out.trans (hY.mono HB3.out.size)
  clear hb1 hb2 hb3
  obtain ⟨R, hR⟩ : ∃ R, learnedA m l d = R := ⟨_, rfl⟩
  have HR : Hid (learnedA m l d = R) := hR
  have HRH : Hid (R.2.1 = true → allA m vals = (true, 0) → l.all (okB m vals) = true → choldsA m R.1 vals = (true, 0)) := by rw [← hR]; exact learn_holds m l d vals
  obtain ⟨L1, B1, E1⟩ := R
  dsimp only at HRH
  clear hR
  obtain ⟨k0, k1, k2, k3⟩ := HQ.out _ (Below.refl _ _)
  go_wp2_with fail
  refine (learn_any m l d _ _ _ _ _ (HMA.out _ HB3.out) (HL.out _ HB3.out) (HD.out _ HB3.out) (HT.out _ HB3.out)).mono ?_
  rintro e w4 ⟨y, rfl, hy, hb4⟩
  rw [HR.out] at hy ⊢
  have HB4 : Hid (Below w3.heap.size w3 w4) := hb4
  have HY : Hid (∀ w', Below w4.heap.size w4 w' → LArg w' y L1) := fun w' h => LArg.below h hy.arg
  obtain ⟨a6, c6, hye⟩ := own_form (show w4.ownsRow _ _ _ _ _ _ from hy)
  subst hye
  clear hy hb4 k0 k1 k2 k3
  dsimp only
  obtain ⟨k0, k1, k2, k3⟩ := HQ.out _ HB4.out
  go_wp2_with fail
  refine (mall_any m vals _ _ _ _ (HMA.out _ (HTO.out _ HB4.out)) (HV.out _ (HTO.out _ HB4.out))).mono ?_
  rintro e w5 ⟨rfl, hb5⟩
  have HB45 : Hid (Below w4.heap.size w4 w5) := hb5
  have HB5 : Hid (Below w3.heap.size w3 w5) := HB4.out.trans (hb5.mono HB4.out.size)
  obtain ⟨A, EA, hA⟩ : ∃ A EA, allA m vals = (A, EA) := ⟨_, _, rfl⟩
  have HA : Hid (allA m vals = (A, EA)) := hA
  rw [hA]
  clear hb5 k0 k1 k2 k3 hA
  dsimp only
  obtain ⟨k0, k1, k2, k3⟩ := HQ.out _ HB5.out
  by_cases h1 : E1 = 0
  · subst h1
    cases B1
    · go_wp2
      go_ret
      exact ⟨rfl, HTO.out _ HB5.out⟩
    · have HRH2 : Hid (allA m vals = (true, 0) → l.all (okB m vals) = true → choldsA m L1 vals = (true, 0)) := HRH.out rfl
      clear HRH
      by_cases h2 : EA = 0
      · subst h2
        cases A
        · go_wp2
          go_ret
          exact ⟨rfl, HTO.out _ HB5.out⟩
        · go_wp2_with fail
          refine (allcla_any m l vals _ _ _ _ _ (HMA.out _ (HTO.out _ HB5.out)) (HL.out _ (HTO.out _ HB5.out)) (HV.out _ (HTO.out _ HB5.out))).mono ?_
          rintro e w6 ⟨rfl, hb6⟩
          have HB46 : Hid (Below w4.heap.size w4 w6) := HB45.out.trans (hb6.mono HB45.out.size)
          have HB6 : Hid (Below w3.heap.size w3 w6) := HB5.out.trans (hb6.mono HB5.out.size)
          clear hb6 k0 k1 k2 k3
          obtain ⟨k0, k1, k2, k3⟩ := HQ.out _ HB6.out
          cases hok : l.all (okB m vals)
          · go_wp2
            go_ret
            exact ⟨rfl, HTO.out _ HB6.out⟩
          · have HS : Hid (choldsA m L1 vals = (true, 0)) := HRH2.out HA.out hok
            go_wp2_with fail
            refine (cholds_any m L1 vals _ _ _ _ _ (HMA.out _ (HTO.out _ HB6.out)) (HY.out _ HB46.out) (HV.out _ (HTO.out _ HB6.out))).mono ?_
            rintro e w7 ⟨rfl, hb7⟩
            rw [HS.out]
            have HB7 : Hid (Below w3.heap.size w3 w7) := HB6.out.trans (hb7.mono HB6.out.size)
            clear hb7
            go_wp2
            go_ret
            exact ⟨rfl, HTO.out _ HB7.out⟩
      · have he : (EA != 0) = true := by simpa using h2
        clear h2
        go_wp2
        go_ret
        exact ⟨rfl, HTO.out _ HB5.out⟩
  · have he : (E1 != 0) = true := by simpa using h1
    clear h1
    go_wp2
    go_ret
    exact ⟨rfl, HTO.out _ HB5.out⟩
end Go.Proofs.YtijohkhpigjbkaeGreatDoor
/-
  Stores and clauses that came in, opened.
-/
namespace Go.Proofs.YtijohkhpigjbkaeGreatDoor
open Go.ChangeShapes Go.WideShapes Go.ChangeAt Go.RowKit Go.Deep

theorem Tryz.underClause : Tryz.prog.underlying 29 = some (.slice 42) := by kernel_rfl
section
variable {H : Type} {enc : TypeId × Value → H} {w : World} {base : Nat} {spare : Nat → Bool} {held : Bool}
/-- A store that came in. -/
theorem open_store {fuel : Nat} {cs : List Value} {x : DataW H × List MemPlace} (h : DataW.trod enc Tryz.prog w base spare held fuel 27 cs = some x) :
    ∃ v l, cs = [v] ∧ RArg w v l := by
  obtain ⟨l, a, c, hcs, hm, hr⟩ := open_elems (α := Value × List Int) Tryz.underStore Tryz.cInts (by decide) (fun z => [z.1]) (fun z => IArg w z.1 z.2)
    (fun n cs' x' h' => by obtain ⟨v, r, hz, hi⟩ := open_ilist h'; exact ⟨(v, r), hz, hi⟩) h
  refine ⟨_, l.map (·.2), hcs, a, c, by simp, by simpa using hm, fun i r hr' => ?_⟩
  rw [List.getElem?_map] at hr'
  obtain ⟨⟨v, r2⟩, hz, rfl⟩ := Option.map_eq_some_iff.1 hr'
  obtain ⟨hg, b, off, ha, hb, hc⟩ := hr i _ hz
  have := hc 0 _ rfl
  exact ⟨b, off, v, ha, hb, by simpa using this, hg⟩
/-- A clause that came in. -/
theorem open_cla {fuel : Nat} {cs : List Value} {x : DataW H × List MemPlace} (h : DataW.trod enc Tryz.prog w base spare held fuel 29 cs = some x) :
    ∃ v l, cs = [v] ∧ LArg w v l := by
  have hinh : Inhabited MLit := ⟨⟨0, 0, 0⟩⟩
  obtain ⟨l, a, c, hcs, hm, hr⟩ := open_elems (α := MLit) Tryz.underClause Tryz.cLit (by decide) (fun t => [.int .i64 t.var, .int .i64 t.op, .int .i64 t.n]) (fun _ => True)
    (fun n cs' x' h' => by obtain ⟨t, ht⟩ := one_lit h'; exact ⟨t, ht, trivial⟩) h
  refine ⟨_, l, hcs, a, c, rfl, hm, fun i z hz => ?_⟩
  obtain ⟨_, b, off, ha, hb, hc⟩ := hr i z hz
  have e0 := hc 0 _ rfl
  have e1 := hc 1 _ rfl
  have e2 := hc 2 _ rfl
  rw [← Nat.add_assoc] at e0 e1 e2
  exact ⟨b, off, ha, hb, e0, e1, e2⟩
end
end Go.Proofs.YtijohkhpigjbkaeGreatDoor
/-
  A list of clauses that came in, opened.
-/
namespace Go.Proofs.YtijohkhpigjbkaeGreatDoor
open Go.ChangeShapes Go.WideShapes Go.ChangeAt Go.RowKit Go.Deep

theorem Tryz.underClauses : Tryz.prog.underlying 52 = some (.slice 29) := by kernel_rfl
theorem Tryz.cClause : Tryz.prog.cellsOf 29 = 1 := by kernel_rfl
section
variable {H : Type} {enc : TypeId × Value → H} {w : World} {base : Nat} {spare : Nat → Bool} {held : Bool}
theorem open_clas {fuel : Nat} {cs : List Value} {x : DataW H × List MemPlace} (h : DataW.trod enc Tryz.prog w base spare held fuel 52 cs = some x) :
    ∃ v l, cs = [v] ∧ LLArg w v l := by
  obtain ⟨l, a, c, hcs, hm, hr⟩ := open_elems (α := Value × Cla) Tryz.underClauses Tryz.cClause (by decide) (fun z => [z.1]) (fun z => LArg w z.1 z.2)
    (fun n cs' x' h' => by obtain ⟨v, r, hz, hi⟩ := open_cla h'; exact ⟨(v, r), hz, hi⟩) h
  refine ⟨_, l.map (·.2), hcs, a, c, by simp, by simpa using hm, fun i r hr' => ?_⟩
  rw [List.getElem?_map] at hr'
  obtain ⟨⟨v, r2⟩, hz, rfl⟩ := Option.map_eq_some_iff.1 hr'
  obtain ⟨hg, b, off, ha, hb, hc⟩ := hr i _ hz
  have := hc 0 _ rfl
  exact ⟨b, off, v, ha, hb, by simpa using this, hg⟩
end
end Go.Proofs.YtijohkhpigjbkaeGreatDoor
