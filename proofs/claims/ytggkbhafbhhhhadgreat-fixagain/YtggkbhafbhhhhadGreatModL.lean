/-
  WALKS: package truth: differ.
-/
import Derived.Test.YtggkbhafbhhhhadGreatModK
import Derived.Maps.OwnSet
import Derived.Maps.AppendAt
import Derived.WalkKit
namespace Go.Proofs.YtggkbhafbhhhhadGreat
open Go.RowKit Go.Maps

theorem Tryz.intKey : Keyed Tryz.prog 3 := int_keyed Tryz.underlying3
theorem Tryz.zeroUnit (w : World) : (zeroValue 122).run Tryz.prog w = .ok (.agg #[]) w := by kernel_rfl
def setD {H : Type} (l : List Int) : DataW H := setOf (.agg []) (l.map (Lit.int .i64))
theorem any_lit (x : Int) : ∀ l : List Int, l.any ((fun y : Lit => y.sameKey (.int .i64 x)) ∘ Lit.int .i64) = l.contains x
  | [] => rfl
  | a :: r => by
    rw [List.any_cons, List.contains_cons, any_lit x r]
    congr 1
    show decide (IntKind.i64 = IntKind.i64 ∧ a = x) = (x == a)
    by_cases e : a = x
    · subst e
      simp
    · have e' : ¬ x = a := fun h => e h.symm
      simp [e, e']
theorem has_setD {H : Type} (l : List Int) (x : Int) : Maps.has (setD (H := H) l) (.int .i64 x) = l.contains x := by
  unfold setD
  rw [has_setOf _ _ _ (fun y hy => by obtain ⟨_, _, rfl⟩ := List.mem_map.1 hy; trivial), List.any_map]
  exact any_lit x _
theorem setD_next {H : Type} (l : List Int) (x : Int) : setD (H := H) (l ++ [x]) = (setD l).put (.int .i64 x) (.agg []) := by
  unfold setD; rw [List.map_append]; exact setOf_snoc _ _ _
theorem nodup_next (l : List Int) (k : Nat) (x : Int) (hx : l[k]? = some x) (h : (l.take k).Nodup) (hc : (l.take k).contains x = false) : (l.take (k + 1)).Nodup := by
  rw [List.take_add_one, hx]
  rw [List.nodup_append]
  refine ⟨h, by simp, fun a ha b hb => ?_⟩
  simp at hb
  subst hb
  intro e
  subst e
  have : (l.take k).contains a = true := by simpa using ha
  rw [hc] at this; cases this
theorem nodup_hit (l : List Int) (k : Nat) (x : Int) (hx : l[k]? = some x) (hc : (l.take k).contains x = true) : ¬ l.Nodup := by
  intro hn
  have hk : k < l.length := (List.getElem?_eq_some_iff.1 hx).1
  have h1 : x ∈ l.take k := by simpa using hc
  have h2 : x ∈ l.drop k := by rw [List.drop_eq_getElem_cons hk]; have : l[k] = x := by simpa [hk] using hx
                               rw [this]; exact List.mem_cons_self ..
  have h3 := hn
  rw [← List.take_append_drop k l, List.nodup_append] at h3
  exact h3.2.2 x h1 x h2 rfl

set_option maxHeartbeats 1600000 in
set_option maxRecDepth 100000 in
theorem differ_any (l : List Int) (v : Value) (w : World) (hv : IArg w v l) (hn : l.length ≤ 4) (hb0 : ∀ x ∈ l, -50 ≤ x ∧ x ≤ 50) :
    Calls Tryz.prog 87 #[v] w fun e w' => e = .returned (.bool (decide l.Nodup)) ∧ Below w.heap.size w w' := by
  obtain ⟨a, c, rfl, hm, hr⟩ := hv
  have HV : Hid (∀ (i : Nat) (z : Int), l[i]? = some z → ∃ b off, a = some ⟨b, off, none⟩ ∧ b < w.heap.size ∧ w.cell? ⟨b, off + i, none⟩ = some (.int .i64 z)) := hr
  have HB : Hid (∀ x ∈ l, -50 ≤ x ∧ x ≤ 50) := hb0
  obtain ⟨R, hR⟩ : ∃ R, decide l.Nodup = R := ⟨_, rfl⟩
  rw [hR]
  have HR : Hid (decide l.Nodup = R) := hR
  unfold maxLen at hm
  obtain ⟨hm1, hm⟩ := hm
  clear hr hR hb0
  have hmm := @run_makeMap Tryz.prog
  go_enter Tryz.func87, Tryz.ntmps87
  go_wp2_with fail
  clear hmm
  go_loopw [11] (fun i wr => ∃ k : Nat, k ≤ l.length ∧ i = .int .i64 k ∧ wr.ownsMap Tryz.prog 3 unitElem w.heap.size k (setD (H := Unit) (l.take k)) ∧ Hid ((l.take k).Nodup) ∧ Below w.heap.size w wr ∧ w.heap.size + 1 ≤ wr.heap.size) (fun i _ => l.length - (intOf i).toNat)
  case atStart => exact ⟨0, by omega, rfl, World.ownsMap_made _ _ _ _, by show List.Nodup _; simp, (Below.refl _ _).alloc (Nat.le_refl _) _, by simp⟩
  case round =>
    obtain ⟨k, hk, rfl, hown, hnd, hbw, hws⟩ := hrel
    by_cases hlt : k < l.length
    · obtain ⟨x, hx⟩ : ∃ x, l[k]? = some x := ⟨l[k], by simp [hlt]⟩
      obtain ⟨b, off, rfl, hb, hc⟩ := HV.out k x hx
      have e1 := (hbw.cell (p := ⟨b, off + k, none⟩) hb).trans hc
      have hxb := HB.out x (List.mem_of_getElem? hx)
      have hkey : keyOf Tryz.prog 3 (.int .i64 x) = some (.int .i64 x) := keyOf_int_mk Tryz.underlying3 (WalkArith.wf_i64 (by omega))
      have HX : Hid (l[k]? = some x) := hx
      clear hx hc hb
      cases hq : (l.take k).contains x
      · have HN : Hid ((l.take (k + 1)).Nodup) := nodup_next l k x HX.out hnd.out hq
        have HD : Hid (setD (H := Unit) (l.take (k + 1)) = (setD (l.take k)).put (.int .i64 x) (.agg [])) := by
          show _ = _; rw [List.take_add_one, HX.out]; exact setD_next _ _
        have hh : Maps.has (setD (H := Unit) (l.take k)) (.int .i64 x) = false := by rw [has_setD]; exact hq
        clear hq
        go_wp2_with (first
          | (at_lookup; refine wpList_lookup_own_unit _ rfl _ _ 138 rfl 3 122 Tryz.intKey Tryz.underlying138 (Tryz.zeroUnit _) w.heap.size k _ rfl hown _ _ rfl hkey ?_)
          | (at_mapUpdate; refine wpList_mapUpdate_own _ rfl _ _ _ 138 rfl 3 122 Tryz.intKey Tryz.underlying138 (unitElem (H := Unit)) w.heap.size k _ rfl (hown.alloc _) (by unfold maxLen; omega) _ _ _ rfl rfl hkey _ [] unitElem_mk ?_; intro w1 hown1 hgrow1)
          | go_in)
        have s1 := hgrow1.size
        simp at s1
        go_roundw
        case rel => exact ⟨k + 1, by omega, by go_num, by rw [HD.out]; exact hown1, HN, (hbw.alloc hbw.size _).grown hgrow1 (by simp; omega) (fun j hj => by cases hj; exact Nat.le_refl _), by omega⟩
        case measure => simp [intOf]; omega
      · have HN : Hid (R = false) := by rw [← HR.out]; exact decide_eq_false (nodup_hit l k x HX.out hq)
        have hh : Maps.has (setD (H := Unit) (l.take k)) (.int .i64 x) = true := by rw [has_setD]; exact hq
        clear hq
        go_wp2_with (first
          | (at_lookup; refine wpList_lookup_own_unit _ rfl _ _ 138 rfl 3 122 Tryz.intKey Tryz.underlying138 (Tryz.zeroUnit _) w.heap.size k _ rfl hown _ _ rfl hkey ?_)
          | go_in)
        go_ret
        exact ⟨ret_bool HN.out.symm, hbw.alloc hbw.size _⟩
    · have HN : Hid (R = true) := by
        have := hnd.out; rw [List.take_of_length_le (by omega)] at this; rw [← HR.out]; exact decide_eq_true this
      go_wp2
      go_ret
      exact ⟨ret_bool HN.out.symm, hbw⟩
end Go.Proofs.YtggkbhafbhhhhadGreat
