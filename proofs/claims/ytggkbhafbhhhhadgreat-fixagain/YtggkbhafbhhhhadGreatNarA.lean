/-
  WALKS: package narrow: the closures of Unit.
-/
import Derived.Test.YtggkbhafbhhhhadGreatTruB
import Derived.Test.YtggkbhafbhhhhadGreatSifB
namespace Go.Proofs.YtggkbhafbhhhhadGreat
open Go.RowKit

set_option maxHeartbeats 400000 in
set_option maxRecDepth 100000 in
theorem live_in (l : MLit) (z : Int) (b : Nat) (w : World) (h0 : w.cell? ⟨b, 0, none⟩ = some (.int .i64 l.var)) (h1 : w.cell? ⟨b, 1, none⟩ = some (.int .i64 l.op)) (h2 : w.cell? ⟨b, 2, none⟩ = some (.int .i64 l.n)) :
    Calls Tryz.prog 103 #[.int .i64 z, .pointer (some ⟨b, 0, none⟩)] w fun e w' => e = .returned (.bool (litV z l)) ∧ Below w.heap.size w w' := by
  go_enter Tryz.func103, Tryz.ntmps103
  go_wp2_with fail
  refine (lit_true l z _).mono ?_
  rintro e w1 ⟨rfl, hb1⟩
  go_wp2
  go_ret
  exact ⟨rfl, hb1⟩
theorem enters_livein (args : Array Value) (w' : World) : Sem.run Tryz.prog (callFunc 103 args) w' = .ok (.enter 103 args) w' := by
  simp [callFunc, go_sem, Tryz.func103, Tryz.f103]

set_option maxHeartbeats 800000 in
set_option maxRecDepth 100000 in
theorem live_any (s : Sto) (l : MLit) (v : Value) (b : Nat) (w : World) (hv : RArg w v s) (hb : w.cell? ⟨b, 0, none⟩ = some v) (h0 : 0 ≤ l.var) (h1 : l.var < (s.length : Int)) :
    Calls Tryz.prog 102 #[.agg #[.int .i64 l.var, .int .i64 l.op, .int .i64 l.n], .pointer (some ⟨b, 0, none⟩)] w fun e w' => e = .returned (.bool (liveB s l)) ∧ Below w.heap.size w w' := by
  obtain ⟨a, c, rfl, hm, hr⟩ := hv
  obtain ⟨j, hj⟩ : ∃ j : Nat, l.var = (j : Int) := ⟨l.var.toNat, by omega⟩
  have hjl : j < s.length := by omega
  obtain ⟨r, hrr⟩ : ∃ r, s[j]? = some r := ⟨s[j], by simp [hjl]⟩
  obtain ⟨b9, off9, x, rfl, hb9, g9, hx⟩ := hr j r hrr
  have HX : Hid (IArg w x r) := hx
  obtain ⟨a5, c5, rfl, _, _⟩ := hx
  have HRO : Hid (liveB s l = r.any fun z => litV z l) := by
    show _ = _
    unfold liveB rowOf
    rw [hj, Int.toNat_natCast, List.getD_eq_getElem?_getD, hrr]; rfl
  rw [HRO.out]
  have HJ : Hid (l.var = (j : Int)) := hj
  rw [hj]
  have hbl : b < w.heap.size := World.block_lt_of_cell? w _ hb
  unfold maxLen at hm
  obtain ⟨hm1, hm⟩ := hm
  clear hr hrr hj HRO h0 h1
  go_enter Tryz.func102, Tryz.ntmps102
  go_wp2_with fail
  refine (containsf_ints 103 _ (fun z => litV z l) r _ _ (IArg.below (below_alloc _ _) HX.out) ⟨enters_livein, ?_⟩).mono ?_
  · intro z w' hb'
    refine live_in l z w.heap.size w' ?_ ?_ ?_
    · rw [HJ.out]; exact (hb'.cell (by simp)).trans (World.cell?_alloc_at _ _ _ 0 (by simp))
    · exact (hb'.cell (by simp)).trans (World.cell?_alloc_at _ _ _ 1 (by simp))
    · exact (hb'.cell (by simp)).trans (World.cell?_alloc_at _ _ _ 2 (by simp))
  rintro e w1 ⟨rfl, hb1⟩
  have hb2 : Below w.heap.size w w1 := (below_alloc _ _).trans (hb1.mono (by simp))
  clear hb1
  go_wp2
  go_ret
  exact ⟨rfl, hb2⟩
theorem enters_live (args : Array Value) (w' : World) : Sem.run Tryz.prog (callFunc 102 args) w' = .ok (.enter 102 args) w' := by
  simp [callFunc, go_sem, Tryz.func102, Tryz.f102]

set_option maxHeartbeats 800000 in
set_option maxRecDepth 100000 in
theorem other_any (s : Sto) (l : MLit) (x : Int) (v : Value) (bs bv bo : Nat) (w : World) (hv : RArg w v s) (hb : w.cell? ⟨bs, 0, none⟩ = some v) (h1 : w.cell? ⟨bv, 0, none⟩ = some (.int .i64 x))
    (h2 : w.cell? ⟨bo, 0, none⟩ = some (.func (.func 102) #[] #[.pointer (some ⟨bs, 0, none⟩)])) (h3 : 0 ≤ l.var) (h4 : l.var < (s.length : Int)) :
    Calls Tryz.prog 105 #[.agg #[.int .i64 l.var, .int .i64 l.op, .int .i64 l.n], .pointer (some ⟨bv, 0, none⟩), .pointer (some ⟨bo, 0, none⟩)] w fun e w' => e = .returned (.bool (!decide (l.var = x) && liveB s l)) ∧ Below w.heap.size w w' := by
  have HVA : Hid (∀ w' : World, Below w.heap.size w w' → RArg w' v s) := fun w' h => RArg.below h hv
  have HB : Hid (w.cell? ⟨bs, 0, none⟩ = some v) := hb
  have lb : bs < w.heap.size := World.block_lt_of_cell? w _ hb
  have l1 : bv < w.heap.size := World.block_lt_of_cell? w _ h1
  have l2 : bo < w.heap.size := World.block_lt_of_cell? w _ h2
  clear hb hv
  by_cases hq : l.var = x
  · have g0 : (l.var != x) = false := by simpa using hq
    have HN : Hid ((!decide (l.var = x) && liveB s l) = false) := by show _ = _; rw [decide_eq_true hq]; rfl
    rw [HN.out]
    clear hq
    go_enter Tryz.func105, Tryz.ntmps105
    go_wp2
    go_ret
    exact ⟨rfl, below_alloc _ _⟩
  · have g0 : (l.var != x) = true := by simpa using hq
    have HN : Hid ((!decide (l.var = x) && liveB s l) = liveB s l) := by show _ = _; rw [decide_eq_false hq]; rfl
    rw [HN.out]
    clear hq
    go_enter Tryz.func105, Tryz.ntmps105
    go_wp2_with fail
    refine (live_any s l _ bs _ (HVA.out _ (below_alloc _ _)) ((World.cell?_alloc_past _ _ _ lb).trans HB.out) h3 h4).mono ?_
    rintro e w1 ⟨rfl, hb1⟩
    have hb2 : Below w.heap.size w w1 := (below_alloc _ _).trans (hb1.mono (by simp))
    clear hb1
    go_wp2
    go_ret
    exact ⟨rfl, hb2⟩
theorem enters_other (args : Array Value) (w' : World) : Sem.run Tryz.prog (callFunc 105 args) w' = .ok (.enter 105 args) w' := by
  simp [callFunc, go_sem, Tryz.func105, Tryz.f105]

set_option maxHeartbeats 400000 in
set_option maxRecDepth 100000 in
theorem goes_any (c : Cla) (k : Nat) (z : Int) (u : Value) (bc bv : Nat) (w : World) (hu : LArg w u c) (h1 : w.cell? ⟨bc, 0, none⟩ = some u) (h2 : w.cell? ⟨bv, 0, none⟩ = some (.int .i64 (k : Int))) :
    Calls Tryz.prog 107 #[.int .i64 z, .pointer (some ⟨bc, 0, none⟩), .pointer (some ⟨bv, 0, none⟩)] w fun e w' => e = .returned (.bool (!oneB c k z)) ∧ Below w.heap.size w w' := by
  have HU : Hid (LArg w u c) := hu
  obtain ⟨a, cc, rfl, _, _⟩ := hu
  go_enter Tryz.func107, Tryz.ntmps107
  go_wp2_with fail
  refine (one_of c k z _ _ HU.out).mono ?_
  rintro e w1 ⟨rfl, hb1⟩
  go_wp2
  go_ret
  exact ⟨rfl, hb1⟩
theorem enters_goes (args : Array Value) (w' : World) : Sem.run Tryz.prog (callFunc 107 args) w' = .ok (.enter 107 args) w' := by
  simp [callFunc, go_sem, Tryz.func107, Tryz.f107]

set_option maxHeartbeats 800000 in
set_option maxRecDepth 100000 in
theorem left_any (c : Cla) (j k : Nat) (z : Int) (u : Value) (bc bv bg : Nat) (w : World) (hu : LArg w u c) (h1 : w.cell? ⟨bc, 0, none⟩ = some u) (h2 : w.cell? ⟨bv, 0, none⟩ = some (.int .i64 (j : Int)))
    (h3 : w.cell? ⟨bg, 0, none⟩ = some (.func (.func 107) #[] #[.pointer (some ⟨bc, 0, none⟩), .pointer (some ⟨bv, 0, none⟩)])) :
    Calls Tryz.prog 108 #[.int .i64 (k : Int), .int .i64 z, .pointer (some ⟨bv, 0, none⟩), .pointer (some ⟨bg, 0, none⟩)] w fun e w' => e = .returned (.bool (decide ((k : Int) ≠ (j : Int)) || oneB c k z)) ∧ Below w.heap.size w w' := by
  by_cases hq : (k : Int) = (j : Int)
  · have g0 : ((k : Int) != (j : Int)) = false := by simpa using hq
    have hkj : k = j := by omega
    have HN : Hid ((decide ((k : Int) ≠ (j : Int)) || oneB c k z) = oneB c j z) := by show _ = _; rw [hkj]; simp
    have HG : Hid (Calls Tryz.prog 107 #[.int .i64 z, .pointer (some ⟨bc, 0, none⟩), .pointer (some ⟨bv, 0, none⟩)] w fun e w' => e = .returned (.bool (!oneB c j z)) ∧ Below w.heap.size w w') := goes_any c j z u bc bv w hu h1 h2
    rw [HN.out]
    obtain ⟨B, hB⟩ : ∃ B, oneB c j z = B := ⟨_, rfl⟩
    rw [hB] at HG ⊢
    clear hq hkj hu h1 hB HN
    go_enter Tryz.func108, Tryz.ntmps108
    go_wp2_with fail
    refine HG.out.mono ?_
    rintro e w1 ⟨rfl, hb1⟩
    go_wp2
    go_ret
    exact ⟨by cases B <;> rfl, hb1⟩
  · have g0 : ((k : Int) != (j : Int)) = true := by simpa using hq
    have HN : Hid ((decide ((k : Int) ≠ (j : Int)) || oneB c k z) = true) := by show _ = _; rw [decide_eq_true hq]; rfl
    rw [HN.out]
    clear hq hu h1 h3
    go_enter Tryz.func108, Tryz.ntmps108
    go_wp2
    go_ret
    exact ⟨rfl, Below.refl _ _⟩
theorem enters_left (args : Array Value) (w' : World) : Sem.run Tryz.prog (callFunc 108 args) w' = .ok (.enter 108 args) w' := by
  simp [callFunc, go_sem, Tryz.func108, Tryz.f108]
end Go.Proofs.YtggkbhafbhhhhadGreat
