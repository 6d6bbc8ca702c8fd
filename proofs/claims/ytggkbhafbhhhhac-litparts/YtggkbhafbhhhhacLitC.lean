/-
  WALKS: package lit: Told, Put.
-/
import Derived.Test.YtggkbhafbhhhhacLitB
namespace Go.Proofs.Ytggkbhafbhhhhac
open Go.RowKit

theorem held_hit (r : List Int) (l : MLit) (j : Nat) (z : Int) (hz : r[j]? = some z) (h : litV z l = true) : heldN (r.take (j + 1)) l = heldN (r.take j) l + 1 := by
  unfold heldN; rw [List.take_add_one, hz, List.filter_append]; simp [h]
theorem held_miss (r : List Int) (l : MLit) (j : Nat) (z : Int) (hz : r[j]? = some z) (h : litV z l = false) : heldN (r.take (j + 1)) l = heldN (r.take j) l := by
  unfold heldN; rw [List.take_add_one, hz, List.filter_append]; simp [h]
theorem held_le (r : List Int) (l : MLit) : heldN r l ≤ r.length := List.length_filter_le _ _

set_option maxHeartbeats 1600000 in
set_option maxRecDepth 100000 in
theorem ltold_any (m : Mod) (s : Sto) (l : MLit) (vs cs v : Value) (w : World) (hm : MArg w vs cs m) (hv : RArg w v s) :
    Calls Try.prog 12 #[modV vs cs m, v, .agg #[.int .i64 l.var, .int .i64 l.op, .int .i64 l.n]] w fun e w' => e = .returned (.tuple #[.int .i64 (ltoldA m s l).1, .int .i64 (ltoldA m s l).2]) ∧ Below w.heap.size w w' := by
  have HMA : Hid (∀ w' : World, Below w.heap.size w w' → MArg w' vs cs m) := fun w' h => MArg.below h hm
  have HVA : Hid (∀ w' : World, Below w.heap.size w w' → RArg w' v s) := fun w' h => RArg.below h hv
  obtain ⟨⟨a1, c1, rfl, _, _⟩, ⟨a2, c2, rfl, _, _⟩⟩ := hm
  obtain ⟨a3, c3, rfl, hl3, hr3⟩ := hv
  have HV3 : Hid (∀ (i : Nat) (r : List Int), s[i]? = some r → ∃ b off x, a3 = some ⟨b, off, none⟩ ∧ b < w.heap.size ∧ w.cell? ⟨b, off + i, none⟩ = some x ∧ IArg w x r) := hr3
  unfold maxLen at hl3
  obtain ⟨hl31, hl3⟩ := hl3
  obtain ⟨R, hR⟩ : ∃ R, ltoldA m s l = R := ⟨_, rfl⟩
  rw [hR]
  obtain ⟨er, her⟩ : ∃ er, linE m s l = er := ⟨_, rfl⟩
  have HER : Hid (linE m s l = er) := her
  have HE : Hid (R = if er = 0 then (toldR (rowOf s l) l, 0) else (0, er)) := by rw [← hR, ← her]; rfl
  clear hR her hr3
  unfold modV
  go_enter Try.func12, Try.ntmps12
  go_wp2_with fail
  refine (lin_any m s l (.slice a1 m.vars.length c1) (.slice a2 m.cons.length c2) _ _ ?_ ?_).mono ?_
  · exact HMA.out _ (below2 _ _ _)
  · exact HVA.out _ (below2 _ _ _)
  rintro e w1 ⟨rfl, hb1⟩
  rw [HER.out]
  have d0 : w1.cell? ⟨w.heap.size + 1, 0, none⟩ = some (.int .i64 l.var) := (hb1.cell (by simp)).trans (World.cell?_alloc_at _ _ _ 0 (by simp))
  have d1 : w1.cell? ⟨w.heap.size + 1, 1, none⟩ = some (.int .i64 l.op) := (hb1.cell (by simp)).trans (World.cell?_alloc_at _ _ _ 1 (by simp))
  have d2 : w1.cell? ⟨w.heap.size + 1, 2, none⟩ = some (.int .i64 l.n) := (hb1.cell (by simp)).trans (World.cell?_alloc_at _ _ _ 2 (by simp))
  have HB1 : Hid (Below w.heap.size w w1) := (below2 _ _ _).trans (hb1.mono (by simp; omega))
  have hs1 : w.heap.size + 2 ≤ w1.heap.size := by simpa using hb1.size
  clear hb1
  by_cases he : er = 0
  · subst he
    obtain ⟨o1, o2⟩ := linE_ok m s l HER.out
    obtain ⟨o3, o4⟩ := (checkL_one m s).1 o1
    obtain ⟨⟨q1, q2⟩, _, _⟩ := (litE_ok _ _).1 o2
    have hlen := ((checkV_ok _ _).1 o4).1
    obtain ⟨i, hi⟩ : ∃ i : Nat, l.var = (i : Int) := ⟨l.var.toNat, by omega⟩
    have hil : i < s.length := by omega
    obtain ⟨r, hr⟩ : ∃ r, s[i]? = some r := ⟨s[i], by simp [hil]⟩
    have hr6 : r.length ≤ 6 := row_short m s o3 o4 i r hr
    have HRO : Hid (rowOf s l = r) := by
      show _ = _
      unfold rowOf; rw [hi, Int.toNat_natCast, List.getD_eq_getElem?_getD, hr]; rfl
    have HN0 : Hid (R = (toldR r l, 0)) := by rw [HE.out, if_pos rfl, HRO.out]; rfl
    obtain ⟨b, off, x, hax, hb, hc0, hix⟩ := HV3.out i r hr
    subst hax
    have hc := (HB1.out.cell (p := ⟨b, off + i, none⟩) hb).trans hc0
    obtain ⟨a5, c5, rfl, hm5, hr5⟩ := hix
    have HR5 : Hid (∀ (i : Nat) (z : Int), r[i]? = some z → ∃ b off, a5 = some ⟨b, off, none⟩ ∧ b < w.heap.size ∧ w.cell? ⟨b, off + i, none⟩ = some (.int .i64 z)) := hr5
    unfold maxLen at hm5
    obtain ⟨hm51, hm5⟩ := hm5
    rw [hi] at d0
    have HI : Hid (l.var = (i : Int)) := hi
    have HHL : Hid (heldN r l ≤ r.length) := held_le r l
    have hbb : b < w1.heap.size := by omega
    clear hr hc0 hr5 o1 o2 o3 o4 q1 q2 hlen hi
    go_wp2_with fail
    go_loopw [9, 25] (fun h i wr => ∃ j : Nat, j ≤ r.length ∧ i = .int .i64 j ∧ h = .int .i64 (heldN (r.take j) l) ∧ Below w1.heap.size w1 wr) (fun _ i _ => r.length - (intOf i).toNat)
    case atStart => exact ⟨0, by omega, rfl, rfl, Below.refl _ _⟩
    case round =>
      obtain ⟨j, hj, rfl, rfl, hbw⟩ := hrel
      have HBW : Hid (Below w.heap.size w wr) := HB1.out.trans (hbw.mono (by omega))
      have hsz := hbw.size
      by_cases hlj : j < r.length
      · obtain ⟨z, hz⟩ : ∃ z, r[j]? = some z := ⟨r[j], by simp [hlj]⟩
        obtain ⟨b5, off5, ha5, hb5, hc5⟩ := HR5.out j z hz
        have HZ : Hid (r[j]? = some z) := hz
        subst ha5
        have hcz := (HBW.out.cell (p := ⟨b5, off5 + j, none⟩) hb5).trans hc5
        have k0 := (hbw.cell (p := ⟨w.heap.size + 1, 0, none⟩) (by simp only; omega)).trans d0
        have k1 := (hbw.cell (p := ⟨w.heap.size + 1, 1, none⟩) (by simp only; omega)).trans d1
        have k2 := (hbw.cell (p := ⟨w.heap.size + 1, 2, none⟩) (by simp only; omega)).trans d2
        obtain ⟨hn, HH⟩ : ∃ hn, Hid (heldN (r.take j) l = hn) := ⟨_, rfl⟩
        have hn6 : hn ≤ 6 := by
          have h1 := held_le (r.take j) l
          have h2 : (r.take j).length ≤ r.length := by rw [List.length_take]; omega
          have := HH.out
          omega
        rw [HH.out]
        clear hz hc5 hb5
        have HLT : Calls Try.prog 39 #[.agg #[.int .i64 (i : Int), .int .i64 l.op, .int .i64 l.n], .int .i64 z] wr fun e w' => e = .returned (.bool (litV z l)) ∧ Below wr.heap.size wr w' := by
          have h := lit_true l z wr
          rw [HI.out] at h
          exact h
        cases hq : litV z l
        · have HN : Hid (heldN (r.take (j + 1)) l = hn) := by rw [← HH.out]; exact held_miss r l j z HZ.out hq
          rw [hq] at HLT
          have HLH : Hid (Calls Try.prog 39 #[.agg #[.int .i64 (i : Int), .int .i64 l.op, .int .i64 l.n], .int .i64 z] wr fun e w' => e = .returned (.bool false) ∧ Below wr.heap.size wr w') := HLT
          clear HLT hq
          go_wp2_with fail
          refine HLH.out.mono ?_
          rintro e w2 ⟨rfl, hb2⟩
          have hb3 : Below w1.heap.size w1 w2 := hbw.trans (hb2.mono hsz)
          clear hb2
          go_wp2
          go_roundw
          case rel => exact ⟨j + 1, by omega, by go_num, by rw [HN.out], hb3⟩
          case measure => simp [intOf]; omega
        · have HN : Hid (heldN (r.take (j + 1)) l = hn + 1) := by rw [← HH.out]; exact held_hit r l j z HZ.out hq
          rw [hq] at HLT
          have HLH : Hid (Calls Try.prog 39 #[.agg #[.int .i64 (i : Int), .int .i64 l.op, .int .i64 l.n], .int .i64 z] wr fun e w' => e = .returned (.bool true) ∧ Below wr.heap.size wr w') := HLT
          clear HLT hq
          go_wp2_with fail
          refine HLH.out.mono ?_
          rintro e w2 ⟨rfl, hb2⟩
          have hb3 : Below w1.heap.size w1 w2 := hbw.trans (hb2.mono hsz)
          clear hb2
          go_wp2
          go_roundw
          case rel => exact ⟨j + 1, by omega, by go_num, by rw [HN.out]; go_num, hb3⟩
          case measure => simp [intOf]; omega
      · have HT : Hid (heldN (r.take j) l = heldN r l) := by show _ = _; rw [List.take_of_length_le (by omega)]
        rw [HT.out]
        obtain ⟨hn, HH⟩ : ∃ hn, Hid (heldN r l = hn) := ⟨_, rfl⟩
        have hn6 : hn ≤ r.length := by rw [← HH.out]; exact HHL.out
        rw [HH.out]
        have k0 := (hbw.cell (p := ⟨w.heap.size + 1, 0, none⟩) (by simp only; omega)).trans d0
        have kc := (hbw.cell (p := ⟨b, off + i, none⟩) (by simp only; omega)).trans hc
        by_cases h0 : hn = 0
        · have HN : Hid (R = (-1, 0)) := by rw [HN0.out]; unfold toldR; rw [HH.out, if_pos h0]; rfl
          have g0 : ((hn : Int) == 0) = true := by simp [h0]
          clear h0
          go_wp2
          go_ret2
          exact ⟨by rw [HN.out]; rfl, HBW.out⟩
        · have g0 : ((hn : Int) == 0) = false := by simpa using h0
          by_cases h1 : hn = r.length
          · have HN : Hid (R = (1, 0)) := by rw [HN0.out]; unfold toldR; rw [HH.out, if_neg h0, if_pos h1]; rfl
            have g1 : ((hn : Int) == (r.length : Int)) = true := by simp [h1]
            clear h0 h1
            go_wp2
            go_ret2
            exact ⟨by rw [HN.out]; rfl, HBW.out⟩
          · have HN : Hid (R = (0, 0)) := by rw [HN0.out]; unfold toldR; rw [HH.out, if_neg h0, if_neg h1]; rfl
            have g1 : ((hn : Int) == (r.length : Int)) = false := by simp; omega
            clear h0 h1
            go_wp2
            go_ret2
            exact ⟨by rw [HN.out]; rfl, HBW.out⟩
  · have HN : Hid (R = (0, er)) := by rw [HE.out, if_neg he]; rfl
    have he2 : (er != 0) = true := by simpa using he
    clear he
    go_wp2
    go_ret2
    exact ⟨by rw [HN.out]; rfl, HB1.out⟩

set_option maxHeartbeats 400000 in
set_option maxRecDepth 100000 in
theorem puts_any (l : MLit) (b1 k : Nat) (z : Int) (w : World) (h0 : w.cell? ⟨b1, 0, none⟩ = some (.int .i64 l.var)) (h1 : w.cell? ⟨b1, 1, none⟩ = some (.int .i64 l.op)) (h2 : w.cell? ⟨b1, 2, none⟩ = some (.int .i64 l.n)) :
    Calls Try.prog 41 #[.int .i64 k, .int .i64 z, .pointer (some ⟨b1, 0, none⟩)] w fun e w' => e = .returned (.bool (putB l k z)) ∧ Below w.heap.size w w' := by
  by_cases hk : (k : Int) = l.var
  · have HN : Hid (putB l k z = litV z l) := by show _ = _; unfold putB; rw [decide_eq_false (by simpa using hk)]; rfl
    have g : ((k : Int) != l.var) = false := by simpa using hk
    clear hk
    go_enter Try.func41, Try.ntmps41
    go_wp2_with fail
    refine (lit_true l z _).mono ?_
    rintro e w2 ⟨rfl, hb2⟩
    go_wp2
    go_ret
    exact ⟨ret_bool HN.out.symm, hb2⟩
  · have HN : Hid (putB l k z = true) := by show _ = _; unfold putB; rw [decide_eq_true hk]; rfl
    have g : ((k : Int) != l.var) = true := by simpa using hk
    clear hk
    go_enter Try.func41, Try.ntmps41
    go_wp2
    go_ret
    exact ⟨ret_bool HN.out.symm, Below.refl _ _⟩
theorem enters_puts (args : Array Value) (w' : World) : Sem.run Try.prog (callFunc 41 args) w' = .ok (.enter 41 args) w' := by
  simp [callFunc, go_sem, Try.func41, Try.f41]

set_option maxHeartbeats 1600000 in
set_option maxRecDepth 100000 in
theorem lput_any (m : Mod) (s : Sto) (l : MLit) (vs cs v : Value) (w : World) (hm : MArg w vs cs m) (hv : RArg w v s) :
    Calls Try.prog 11 #[modV vs cs m, v, .agg #[.int .i64 l.var, .int .i64 l.op, .int .i64 l.n]] w fun e w' => ∃ x, e = .returned (.tuple #[x, .int .i64 (lputA m s l).2]) ∧ RArg w' x (lputA m s l).1 ∧ Below w.heap.size w w' := by
  have HMA : Hid (∀ w' : World, Below w.heap.size w w' → MArg w' vs cs m) := fun w' h => MArg.below h hm
  have HVA : Hid (∀ w' : World, Below w.heap.size w w' → RArg w' v s) := fun w' h => RArg.below h hv
  obtain ⟨⟨a1, c1, rfl, _, _⟩, ⟨a2, c2, rfl, _, _⟩⟩ := hm
  obtain ⟨a3, c3, rfl, _, _⟩ := hv
  obtain ⟨R, hR⟩ : ∃ R, lputA m s l = R := ⟨_, rfl⟩
  rw [hR]
  obtain ⟨er, her⟩ : ∃ er, linE m s l = er := ⟨_, rfl⟩
  have HER : Hid (linE m s l = er) := her
  have HE : Hid (R = if er = 0 then (siftS s (putB l), 0) else ([], er)) := by rw [← hR, ← her]; rfl
  clear hR her
  unfold modV
  go_enter Try.func11, Try.ntmps11
  go_wp2_with fail
  refine (lin_any m s l (.slice a1 m.vars.length c1) (.slice a2 m.cons.length c2) _ _ ?_ ?_).mono ?_
  · exact HMA.out _ (below2 _ _ _)
  · exact HVA.out _ (below2 _ _ _)
  rintro e w1 ⟨rfl, hb1⟩
  rw [HER.out]
  have d0 : w1.cell? ⟨w.heap.size + 1, 0, none⟩ = some (.int .i64 l.var) := (hb1.cell (by simp)).trans (World.cell?_alloc_at _ _ _ 0 (by simp))
  have d1 : w1.cell? ⟨w.heap.size + 1, 1, none⟩ = some (.int .i64 l.op) := (hb1.cell (by simp)).trans (World.cell?_alloc_at _ _ _ 1 (by simp))
  have d2 : w1.cell? ⟨w.heap.size + 1, 2, none⟩ = some (.int .i64 l.n) := (hb1.cell (by simp)).trans (World.cell?_alloc_at _ _ _ 2 (by simp))
  have HB1 : Hid (Below w.heap.size w w1) := (below2 _ _ _).trans (hb1.mono (by simp; omega))
  have hs1 : w.heap.size + 2 ≤ w1.heap.size := by simpa using hb1.size
  clear hb1
  by_cases he : er = 0
  · subst he
    obtain ⟨o1, o2⟩ := linE_ok m s l HER.out
    obtain ⟨o3, o4⟩ := (checkL_one m s).1 o1
    obtain ⟨hn6, hr6⟩ := rows_short m s o3 o4
    have HR6 : Hid (∀ r ∈ s, r.length ≤ 6) := hr6
    have HE2 : Hid (R = (siftS s (putB l), 0)) := by rw [HE.out, if_pos rfl]; rfl
    clear hr6 o1 o2 o3 o4
    go_wp2_with fail
    refine (sift_any 41 #[.pointer (some ⟨w.heap.size + 1, 0, none⟩)] s (putB l) _ _ (HVA.out _ HB1.out) ⟨enters_puts, ?_⟩ hn6 HR6.out).mono ?_
    · intro k r z w' _ _ hb'
      exact puts_any l (w.heap.size + 1) k z w' ((hb'.cell (by simp only; omega)).trans d0) ((hb'.cell (by simp only; omega)).trans d1) ((hb'.cell (by simp only; omega)).trans d2)
    rintro e w2 ⟨x, rfl, hx, hb2⟩
    have HX : Hid (RArg w2 x (siftS s (putB l))) := hx
    have hb3 : Below w.heap.size w w2 := HB1.out.trans (hb2.mono (by omega))
    obtain ⟨ax, cx, rfl, _, _⟩ := hx
    clear hb2
    go_wp2
    go_ret2
    rw [HE2.out]
    exact ⟨_, rfl, HX.out, hb3⟩
  · have HN : Hid (R = ([], er)) := by rw [HE.out, if_neg he]; rfl
    have he2 : (er != 0) = true := by simpa using he
    clear he
    go_wp2
    go_ret2
    rw [HN.out]
    exact ⟨_, rfl, ⟨_, _, rfl, ⟨Nat.le_refl _, Nat.zero_le _⟩, fun i r h => by simp at h⟩, HB1.out⟩
end Go.Proofs.Ytggkbhafbhhhhac
