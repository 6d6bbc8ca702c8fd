/-
  WALKS: package store: checkValues, check.
-/
import Derived.Test.YtggkbhafbhhhhabStoA
namespace Go.Proofs.Ytggkbhafbhhhhab
open Go.RowKit

set_option maxHeartbeats 400000 in
set_option maxRecDepth 100000 in
theorem beyond_any (vs : List MVar) (a : Value) (b1 b2 k : Nat) (t : MVar) (z : Int) (w : World) (hv : VArg w a vs) (ht : vs[k]? = some t) (h1 : w.cell? ⟨b1, 0, none⟩ = some a) (h2 : w.cell? ⟨b2, 0, none⟩ = some (.int .i64 k)) :
    Calls Try.prog 63 #[.int .i64 z, .pointer (some ⟨b1, 0, none⟩), .pointer (some ⟨b2, 0, none⟩)] w fun e w' => e = .returned (.bool (!insideB t z)) ∧ w' = w := by
  obtain ⟨a', c, rfl, hm, hr⟩ := hv
  have hkl : k < vs.length := (List.getElem?_eq_some_iff.1 ht).1
  obtain ⟨_, b, off, rfl, hlt, c0, c1, c2⟩ := hr k t ht
  unfold maxLen at hm
  obtain ⟨hm1, hm⟩ := hm
  clear hr ht
  unfold insideB
  by_cases q1 : z < t.lo
  · go_enter Try.func63, Try.ntmps63
    go_wp2
    go_ret
    exact ⟨ret_bool (by first | rfl | (simp; omega)), rfl⟩
  · by_cases q2 : t.hi < z
    · go_enter Try.func63, Try.ntmps63
      go_wp2
      go_ret
      exact ⟨ret_bool (by first | rfl | (simp; omega)), rfl⟩
    · go_enter Try.func63, Try.ntmps63
      go_wp2
      go_ret
      exact ⟨ret_bool (by first | rfl | (simp; omega)), rfl⟩

theorem enters_beyond (args : Array Value) (w' : World) : Sem.run Try.prog (callFunc 63 args) w' = .ok (.enter 63 args) w' := by
  simp [callFunc, go_sem, Try.func63, Try.f63]
theorem any_not {α : Type} (p : α → Bool) (l : List α) : (l.any fun x => !p x) = !l.all p := by
  induction l with
  | nil => rfl
  | cons a r ih => rw [List.any_cons, List.all_cons, ih]; cases p a <;> simp

set_option maxHeartbeats 1600000 in
set_option maxRecDepth 100000 in
theorem values_any (vs : List MVar) (s : Sto) (a v : Value) (w : World) (ha : VArg w a vs) (hv : RArg w v s) :
    Calls Try.prog 51 #[a, v] w fun e w' => e = .returned (.int .i64 (checkV vs s)) ∧ Below w.heap.size w w' := by
  have HA : Hid (∀ w' : World, Below w.heap.size w w' → VArg w' a vs) := fun w' h => VArg.below h ha
  have HVB : Hid (∀ w' : World, Below w.heap.size w w' → RArg w' v s) := fun w' h => RArg.below h hv
  obtain ⟨a1, c1, rfl, hl1, hr1⟩ := ha
  obtain ⟨a2, c2, rfl, hl2, hr2⟩ := hv
  obtain ⟨R, hR⟩ : ∃ R, checkV vs s = R := ⟨_, rfl⟩
  rw [hR]
  unfold maxLen at hl1 hl2
  obtain ⟨hl11, hl1⟩ := hl1
  obtain ⟨hl21, hl2⟩ := hl2
  clear hr1 hr2
  by_cases h0 : s.length = vs.length
  · have HE : Hid (R = if (vs.zip s).all (fun p => p.2.all (insideB p.1)) then (if s.all risesB then 0 else 4) else 3) := by
      rw [← hR]; unfold checkV rangeS; rw [if_pos h0]; rfl
    have g0 : ((s.length : Int) != (vs.length : Int)) = false := by simp [h0]
    have H0 : Hid (s.length = vs.length) := h0
    clear hR h0
    go_enter Try.func51, Try.ntmps51
    go_wp2_with fail
    obtain ⟨w0, hw0⟩ : ∃ w0 : World, w0 = w.alloc (.cells #[.slice a1 vs.length c1] 22) := ⟨_, rfl⟩
    rw [← hw0]
    have HB0 : Hid (Below w.heap.size w w0) := by rw [hw0]; exact below_alloc _ _
    have HZ0 : Hid (w0.heap.size = w.heap.size + 1) := by show _ = _; show _ = _; rw [hw0]; simp
    have HD : Hid (w0.cell? ⟨w.heap.size, 0, none⟩ = some (.slice a1 vs.length c1)) := by show _ = _; rw [hw0]; simp
    clear hw0
    go_loopw [17] (fun i wr => ∃ k : Nat, k ≤ s.length ∧ i = .int .i64 k ∧ Hid (((vs.zip s).take k).all (fun p => p.2.all (insideB p.1)) = true) ∧ Below w0.heap.size w0 wr) (fun i _ => s.length - (intOf i).toNat)
    case atStart => exact ⟨0, by omega, rfl, rfl, Below.refl _ _⟩
    case round =>
      obtain ⟨k, hk, rfl, hall, hbw⟩ := hrel
      have hlt0 : w.heap.size < w0.heap.size := by rw [HZ0.out]; omega
      have HBW : Hid (Below w.heap.size w wr) := HB0.out.trans (hbw.mono (by omega))
      by_cases hlt : k < s.length
      · obtain ⟨t, ht⟩ : ∃ t, vs[k]? = some t := ⟨vs[k]'(by rw [← H0.out]; exact hlt), by simp⟩
        obtain ⟨r, hrr⟩ : ∃ r, s[k]? = some r := ⟨s[k], by simp [hlt]⟩
        have HG : Hid ((vs.zip s)[k]? = some (t, r)) := by show _ = _; rw [List.getElem?_zip_eq_some]; exact ⟨ht, hrr⟩
        obtain ⟨a2', c2', hva, _, hrc⟩ := HVB.out _ HBW.out
        obtain ⟨b, off, x, hax, hb, hc, hix⟩ := hrc k r hrr
        have ha2 : a2 = some ⟨b, off, none⟩ := by cases hva; exact hax
        subst ha2
        have HIX : Hid (IArg wr x r) := hix
        have HT : Hid (vs[k]? = some t) := ht
        obtain ⟨a3, c3, rfl, _, _⟩ := hix
        have hsz := hbw.size
        clear ht hrr hva hrc hax
        go_wp2_with fail
        have hwk : (wr.alloc (.cells #[.int .i64 (k : Int)] 3)).cell? ⟨wr.heap.size, 0, none⟩ = some (.int .i64 k) := by simp
        have hbx : Below w.heap.size w (wr.alloc (.cells #[.int .i64 (k : Int)] 3)) := HBW.out.trans ((below_alloc _ _).mono HBW.out.size)
        have hbx0 : Below w0.heap.size w0 (wr.alloc (.cells #[.int .i64 (k : Int)] 3)) := hbw.alloc hsz _
        have hsx : (wr.alloc (.cells #[.int .i64 (k : Int)] 3)).heap.size = wr.heap.size + 1 := by simp
        obtain ⟨wx, hwx⟩ : ∃ wx : World, wx = wr.alloc (.cells #[.int .i64 (k : Int)] 3) := ⟨_, rfl⟩
        rw [← hwx] at hwk hbx hbx0 hsx ⊢
        have HIX2 : Hid (IArg wx (.slice a3 r.length c3) r) := by rw [hwx]; exact IArg.below (below_alloc _ _) HIX.out
        clear hwx
        refine (containsf_ints 63 _ (fun z => !insideB t z) r _ _ HIX2.out ⟨enters_beyond, ?_⟩).mono ?_
        · intro z w2 hb2
          have g1 := (hb2.cell (p := ⟨w.heap.size, 0, none⟩) (by simp only; omega)).trans ((hbx0.cell (p := ⟨w.heap.size, 0, none⟩) hlt0).trans HD.out)
          have g2 := (hb2.cell (p := ⟨wr.heap.size, 0, none⟩) (by simp only; omega)).trans hwk
          refine (beyond_any vs _ _ _ k t z w2 (HA.out _ (hbx.trans (hb2.mono (by omega)))) HT.out g1 g2).mono ?_
          rintro e w3 ⟨rfl, rfl⟩
          exact ⟨rfl, Below.refl _ _⟩
        rintro e w2 ⟨rfl, hb2⟩
        rw [any_not]
        have hbt : Below w0.heap.size w0 w2 := hbx0.trans (hb2.mono (by omega))
        cases hq : r.all (insideB t)
        · have HN : Hid (R = 3) := by
            have := all_hit (fun p : MVar × List Int => p.2.all (insideB p.1)) (vs.zip s) k (t, r) HG.out hq
            rw [HE.out, this]; rfl
          clear hq
          go_wp2
          go_ret
          exact ⟨ret_int HN.out.symm, HB0.out.trans (hbt.mono (by omega))⟩
        · have HN : Hid (((vs.zip s).take (k + 1)).all (fun p => p.2.all (insideB p.1)) = true) := all_next _ (vs.zip s) k (t, r) HG.out hall.out hq
          clear hq
          go_wp2
          go_roundw
          case rel => exact ⟨k + 1, by omega, by go_num, HN, hbt⟩
          case measure => simp [intOf]; omega
      · have HV : Hid ((vs.zip s).all (fun p => p.2.all (insideB p.1)) = true) := all_end _ _ k (by rw [List.length_zip, ← H0.out]; omega) hall.out
        have HE2 : Hid (R = if s.all risesB then 0 else 4) := by rw [HE.out, HV.out]; rfl
        have HBO : Hid (Below w.heap.size w wr) := HBW.out
        obtain ⟨wo, rfl⟩ : ∃ wo : World, wo = wr := ⟨_, rfl⟩
        go_wp2
        clear hk hall hbw hlt
        go_loopw [29] (fun i wr => ∃ k : Nat, k ≤ s.length ∧ i = .int .i64 k ∧ Hid ((s.take k).all risesB = true) ∧ Below w.heap.size w wr) (fun i _ => s.length - (intOf i).toNat)
        case atStart => exact ⟨0, by omega, rfl, rfl, HBO.out⟩
        case round =>
          obtain ⟨k, hk, rfl, hall, hbw⟩ := hrel
          by_cases hlt : k < s.length
          · obtain ⟨r, hrr⟩ : ∃ r, s[k]? = some r := ⟨s[k], by simp [hlt]⟩
            obtain ⟨a2', c2', hva, _, hrc⟩ := HVB.out _ hbw
            obtain ⟨b, off, x, hax, hb, hc, hix⟩ := hrc k r hrr
            have ha2 : a2 = some ⟨b, off, none⟩ := by cases hva; exact hax
            subst ha2
            have HIX : Hid (IArg wr x r) := hix
            have HRR : Hid (s[k]? = some r) := hrr
            obtain ⟨a3, c3, rfl, _, _⟩ := hix
            clear hrr hva hrc hax
            cases hq : risesB r
            · have HN : Hid (R = 4) := by rw [HE2.out, all_hit risesB s k r HRR.out hq]; rfl
              go_wp2_with fail
              refine (rises_any r _ _ HIX.out).mono ?_
              rintro e w2 ⟨rfl, n, hw2⟩
              rw [hq]
              have hb2 := hbw.trans ((draws_below hw2).mono hbw.size)
              clear hq hw2
              go_wp2
              go_ret
              exact ⟨ret_int HN.out.symm, hb2⟩
            · have HN : Hid ((s.take (k + 1)).all risesB = true) := all_next _ s k r HRR.out hall.out hq
              go_wp2_with fail
              refine (rises_any r _ _ HIX.out).mono ?_
              rintro e w2 ⟨rfl, n, hw2⟩
              rw [hq]
              have hb2 := hbw.trans ((draws_below hw2).mono hbw.size)
              clear hq hw2
              go_wp2
              go_roundw
              case rel => exact ⟨k + 1, by omega, by go_num, HN, hb2⟩
              case measure => simp [intOf]; omega
          · have HN : Hid (R = 0) := by rw [HE2.out, all_end _ s k hlt hall.out]; rfl
            go_wp2
            go_ret
            exact ⟨ret_int HN.out.symm, hbw⟩
  · have HE : Hid (R = 1) := by rw [← hR]; unfold checkV; rw [if_neg h0]; rfl
    have g0 : ((s.length : Int) != (vs.length : Int)) = true := by simp; omega
    clear hR h0
    go_enter Try.func51, Try.ntmps51
    go_wp2
    go_ret
    exact ⟨ret_int HE.out.symm, below_alloc _ _⟩

/-- Stores, one after the other, as a variadic call has them. -/
def GArg (w : World) (v : Value) (l : List Sto) : Prop :=
  ∃ a c, v = .slice a l.length c ∧ (l.length ≤ c ∧ c ≤ maxLen) ∧ ∀ (i : Nat) (r : Sto), l[i]? = some r → ∃ b off x, a = some ⟨b, off, none⟩ ∧ b < w.heap.size ∧ w.cell? ⟨b, off + i, none⟩ = some x ∧ RArg w x r
theorem GArg.below {w w' : World} {v : Value} {l : List Sto} (hb : Below w.heap.size w w') (h : GArg w v l) : GArg w' v l := by
  obtain ⟨a, c, hv, hm, hr⟩ := h
  refine ⟨a, c, hv, hm, fun i z hz => ?_⟩
  obtain ⟨b, off, x, ha, hlt, hc, hx⟩ := hr i z hz
  exact ⟨b, off, x, ha, Nat.lt_of_lt_of_le hlt hb.size, (hb.cell (p := ⟨b, off + i, none⟩) hlt).trans hc, RArg.below hb hx⟩

set_option maxHeartbeats 1600000 in
set_option maxRecDepth 100000 in
theorem check_any2 (m : Mod) (l : List Sto) (vs cs v : Value) (w : World) (hm : MArg w vs cs m) (hv : GArg w v l) :
    Calls Try.prog 31 #[modV vs cs m, v] w fun e w' => e = .returned (.int .i64 (checkL m l)) ∧ Below w.heap.size w w' := by
  have HMA : Hid (∀ w' : World, Below w.heap.size w w' → MArg w' vs cs m) := fun w' h => MArg.below h hm
  have HGA : Hid (∀ w' : World, Below w.heap.size w w' → GArg w' v l) := fun w' h => GArg.below h hv
  obtain ⟨⟨a1, c1, rfl, _, _⟩, ⟨a2, c2, rfl, _, _⟩⟩ := hm
  obtain ⟨a3, c3, rfl, hl3, _⟩ := hv
  unfold maxLen at hl3
  obtain ⟨hl31, hl3⟩ := hl3
  obtain ⟨R, hR⟩ : ∃ R, checkL m l = R := ⟨_, rfl⟩
  rw [hR]
  obtain ⟨er, her⟩ : ∃ er, checkM m = er := ⟨_, rfl⟩
  have HER : Hid (checkM m = er) := her
  have HE : Hid (R = if er = 0 then firstE (l.map (checkV m.vars)) else er) := by rw [← hR, ← her]; rfl
  clear hR her
  unfold modV
  go_enter Try.func31, Try.ntmps31
  go_wp2_with fail
  refine (check_model m _ _ _ (HMA.out _ (below_alloc _ _))).mono ?_
  rintro e w1 ⟨rfl, hb1⟩
  rw [HER.out]
  have d0 : w1.cell? ⟨w.heap.size, 0, none⟩ = some (.slice a1 m.vars.length c1) := (hb1.cell (by simp)).trans (by simp)
  have HB1 : Hid (Below w.heap.size w w1) := (below_alloc _ _).trans (hb1.mono (by simp))
  have hs1 : w.heap.size + 1 ≤ w1.heap.size := by simpa using hb1.size
  clear hb1
  by_cases he : er = 0
  · subst he
    have HE2 : Hid (R = firstE (l.map (checkV m.vars))) := by rw [HE.out, if_pos rfl]; rfl
    go_wp2_with fail
    go_loopw [16] (fun i wr => ∃ k : Nat, k ≤ l.length ∧ i = .int .i64 k ∧ Hid (firstE ((l.map (checkV m.vars)).take k) = 0) ∧ Below w1.heap.size w1 wr) (fun i _ => l.length - (intOf i).toNat)
    case atStart => exact ⟨0, by omega, rfl, rfl, Below.refl _ _⟩
    case round =>
      obtain ⟨k, hk, rfl, hno, hbw⟩ := hrel
      have HBW : Hid (Below w.heap.size w wr) := HB1.out.trans (hbw.mono (by omega))
      have e0 := (hbw.cell (p := ⟨w.heap.size, 0, none⟩) (by simp only; omega)).trans d0
      by_cases hlt : k < l.length
      · obtain ⟨s, hs⟩ : ∃ s, l[k]? = some s := ⟨l[k], by simp [hlt]⟩
        have HG : Hid ((l.map (checkV m.vars))[k]? = some (checkV m.vars s)) := by show _ = _; rw [List.getElem?_map, hs]; rfl
        obtain ⟨a2', c2', hva, _, hrc⟩ := HGA.out _ HBW.out
        obtain ⟨b, off, x, hax, hb, hc, hix⟩ := hrc k s hs
        have ha2 : a3 = some ⟨b, off, none⟩ := by cases hva; exact hax
        subst ha2
        have HIX : Hid (RArg wr x s) := hix
        obtain ⟨a4, c4, rfl, _, _⟩ := hix
        clear hs hva hrc hax
        go_wp2_with fail
        refine (values_any m.vars s _ _ _ (HMA.out _ HBW.out).1 HIX.out).mono ?_
        rintro e w2 ⟨rfl, hb2⟩
        obtain ⟨eq, heq⟩ : ∃ eq, checkV m.vars s = eq := ⟨_, rfl⟩
        have HG2 : Hid ((l.map (checkV m.vars))[k]? = some eq) := by rw [← heq]; exact HG.out
        rw [heq]
        clear heq
        have hbt : Below w1.heap.size w1 w2 := hbw.trans (hb2.mono hbw.size)
        by_cases hz : eq = 0
        · subst hz
          have HN : Hid (firstE ((l.map (checkV m.vars)).take (k + 1)) = 0) := firstE_step _ k hno.out HG2.out
          clear hb2
          go_wp2
          go_roundw
          case rel => exact ⟨k + 1, by omega, by go_num, HN, hbt⟩
          case measure => simp [intOf]; omega
        · have HN : Hid (R = eq) := by rw [HE2.out]; exact firstE_hit _ k eq hno.out HG2.out hz
          have he2 : (eq != 0) = true := by simpa using hz
          clear hb2 hz
          go_wp2
          go_ret
          exact ⟨ret_int HN.out.symm, HB1.out.trans (hbt.mono (by omega))⟩
      · have HN : Hid (R = 0) := by
          have := hno.out; rw [List.take_of_length_le (by simp; omega)] at this; rw [HE2.out]; exact this
        go_wp2
        go_ret
        exact ⟨ret_int HN.out.symm, HBW.out⟩
  · have HN : Hid (R = er) := by rw [HE.out, if_neg he]; rfl
    have he2 : (er != 0) = true := by simpa using he
    clear he
    go_wp2
    go_ret
    exact ⟨ret_int HN.out.symm, HB1.out⟩
end Go.Proofs.Ytggkbhafbhhhhab
