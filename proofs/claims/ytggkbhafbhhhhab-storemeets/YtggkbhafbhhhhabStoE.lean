/-
  WALKS: package store: Meet.
-/
import Derived.Test.YtggkbhafbhhhhabSifA
namespace Go.Proofs.Ytggkbhafbhhhhab
open Go.RowKit

def meetA (m : Mod) (s t : Sto) : Sto × Int := if checkL m [s, t] = 0 then (meetS s t, 0) else ([], checkL m [s, t])
theorem rows_short (m : Mod) (s : Sto) (hm : checkM m = 0) (hs : checkV m.vars s = 0) : s.length ≤ 6 ∧ ∀ r ∈ s, r.length ≤ 6 := by
  have h1 := (checkM_vars m hm).2.1
  have h2 := ((checkV_ok _ _).1 hs).1
  refine ⟨by omega, fun r hr => ?_⟩
  obtain ⟨i, hi⟩ := List.mem_iff_getElem?.1 hr
  exact row_short m s hm hs i r hi

set_option maxHeartbeats 400000 in
set_option maxRecDepth 100000 in
theorem shared_any (t : Sto) (v : Value) (b1 k : Nat) (r : List Int) (z : Int) (w : World) (hv : RArg w v t) (ht : t[k]? = some r) (h1 : w.cell? ⟨b1, 0, none⟩ = some v) :
    Calls Try.prog 32 #[.int .i64 k, .int .i64 z, .pointer (some ⟨b1, 0, none⟩)] w fun e w' => e = .returned (.bool (hasB r z)) ∧ Below w.heap.size w w' := by
  obtain ⟨a', c, rfl, hm, hr⟩ := hv
  have hkl : k < t.length := (List.getElem?_eq_some_iff.1 ht).1
  obtain ⟨b, off, x, rfl, hlt, hc, hx⟩ := hr k r ht
  have HX : Hid (IArg w x r) := hx
  obtain ⟨a3, c3, rfl, _, _⟩ := hx
  unfold maxLen at hm
  obtain ⟨hm1, hm⟩ := hm
  clear hr ht
  go_enter Try.func32, Try.ntmps32
  go_wp2_with fail
  refine (contains_ints r _ z _ HX.out).mono ?_
  rintro e w ⟨rfl, rfl⟩
  go_wp2
  go_ret
  exact ⟨rfl, Below.refl _ _⟩
theorem enters_shared (args : Array Value) (w' : World) : Sem.run Try.prog (callFunc 32 args) w' = .ok (.enter 32 args) w' := by
  simp [callFunc, go_sem, Try.func32, Try.f32]

set_option maxHeartbeats 1600000 in
set_option maxRecDepth 100000 in
theorem smeet_any (m : Mod) (s t : Sto) (vs cs v u : Value) (w : World) (hm : MArg w vs cs m) (hv : RArg w v s) (hu : RArg w u t) :
    Calls Try.prog 7 #[modV vs cs m, v, u] w fun e w' => ∃ x, e = .returned (.tuple #[x, .int .i64 (meetA m s t).2]) ∧ RArg w' x (meetA m s t).1 ∧ Below w.heap.size w w' := by
  have HMA : Hid (∀ w' : World, Below w.heap.size w w' → MArg w' vs cs m) := fun w' h => MArg.below h hm
  have HVA : Hid (∀ w' : World, Below w.heap.size w w' → RArg w' v s) := fun w' h => RArg.below h hv
  have HUA : Hid (∀ w' : World, Below w.heap.size w w' → RArg w' u t) := fun w' h => RArg.below h hu
  obtain ⟨⟨a1, c1, rfl, _, _⟩, ⟨a2, c2, rfl, _, _⟩⟩ := hm
  obtain ⟨a3, c3, rfl, _, _⟩ := hv
  obtain ⟨a4, c4, rfl, _, _⟩ := hu
  obtain ⟨R, hR⟩ : ∃ R, meetA m s t = R := ⟨_, rfl⟩
  rw [hR]
  obtain ⟨er, her⟩ : ∃ er, checkL m [s, t] = er := ⟨_, rfl⟩
  have HER : Hid (checkL m [s, t] = er) := her
  have HE : Hid (R = if er = 0 then (meetS s t, 0) else ([], er)) := by rw [← hR, ← her]; rfl
  have HOK : Hid (er = 0 → checkM m = 0 ∧ checkV m.vars s = 0 ∧ checkV m.vars t = 0) := by
    intro h0
    rwa [← her, checkL_two] at h0
  clear hR her
  unfold modV
  go_enter Try.func7, Try.ntmps7
  go_wp2_with fail
  refine (check_any2 m [s, t] (.slice a1 m.vars.length c1) (.slice a2 m.cons.length c2) _ _ ?_ ?_).mono ?_
  · exact HMA.out _ (((below_alloc _ _).alloc (by simp) _).alloc (by simp; omega) _)
  · exact garg_two (by simp) (HVA.out _ ((below_alloc _ _).alloc (by simp) _)) (HUA.out _ ((below_alloc _ _).alloc (by simp) _))
  rintro e w1 ⟨rfl, hb1⟩
  rw [HER.out]
  have d1 : w1.cell? ⟨w.heap.size + 1, 0, none⟩ = some (.slice a4 t.length c4) := by
    refine (hb1.cell (by simp)).trans ((World.cell?_alloc_past _ _ _ (by simp)).trans ?_)
    exact World.cell?_alloc_at _ _ _ 0 (by simp)
  have HB1 : Hid (Below w.heap.size w w1) := (((below_alloc _ _).alloc (by simp) _).alloc (by simp; omega) _).trans (hb1.mono (by simp; omega))
  have hs1 : w.heap.size + 3 ≤ w1.heap.size := by simpa using hb1.size
  clear hb1
  by_cases he : er = 0
  · subst he
    have HOK2 : Hid (checkM m = 0 ∧ checkV m.vars s = 0 ∧ checkV m.vars t = 0) := HOK.out rfl
    have HL2 : Hid (t.length = s.length) := by
      have h2 := ((checkV_ok _ _).1 HOK2.out.2.1).1
      have h3 := ((checkV_ok _ _).1 HOK2.out.2.2).1
      exact h3.trans h2.symm
    obtain ⟨hn6, hr6⟩ := rows_short m s HOK2.out.1 HOK2.out.2.1
    have HR6 : Hid (∀ r ∈ s, r.length ≤ 6) := hr6
    have HE2 : Hid (R = (siftS s (fun k z => hasB (t.getD k []) z), 0)) := by rw [HE.out, if_pos rfl, meetS_sift s t HL2.out]; rfl
    clear hr6
    go_wp2_with fail
    refine (sift_any 32 #[.pointer (some ⟨w.heap.size + 1, 0, none⟩)] s (fun k z => hasB (t.getD k []) z) _ _ (HVA.out _ HB1.out) ⟨enters_shared, ?_⟩ hn6 HR6.out).mono ?_
    · intro k r z w' hk _ hb'
      have hkl : k < t.length := by rw [HL2.out]; exact (List.getElem?_eq_some_iff.1 hk).1
      have hq : t[k]? = some t[k] := by simp [hkl]
      have := shared_any t _ (w.heap.size + 1) k _ z w' (HUA.out _ (HB1.out.trans (hb'.mono HB1.out.size))) hq ((hb'.cell (by simp only; omega)).trans d1)
      have e1 : t.getD k [] = t[k] := by rw [List.getD_eq_getElem?_getD, hq]; rfl
      show Calls Try.prog _ _ w' fun e w'' => e = .returned (.bool (hasB (t.getD k []) z)) ∧ _
      rw [e1]
      exact this
    rintro e w2 ⟨x, rfl, hx, hb2⟩
    have HX : Hid (RArg w2 x (siftS s (fun k z => hasB (t.getD k []) z))) := hx
    have hb3 : Below w.heap.size w w2 := HB1.out.trans (hb2.mono (by omega))
    obtain ⟨ax, cx, rfl, _, _⟩ := hx
    clear hb2
    go_wp2
    go_ret2
    rw [HE2.out]
    exact ⟨_, rfl, HX.out, hb3⟩
  · have HN : Hid (R = ([], er)) := by rw [HE.out, if_neg he]; rfl
    have he2 : (er != 0) = true := by simpa using he
    clear he
    go_wp2
    go_ret2
    rw [HN.out]
    exact ⟨_, rfl, ⟨_, _, rfl, ⟨Nat.le_refl _, Nat.zero_le _⟩, fun i r h => by simp at h⟩, HB1.out⟩
end Go.Proofs.Ytggkbhafbhhhhab
