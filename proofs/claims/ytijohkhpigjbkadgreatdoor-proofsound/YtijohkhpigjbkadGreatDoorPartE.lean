/-
  PART 5 of what the proof leans on (StoB, StoC, FenB, ExpPlain, StoD, OldA, FenE, SifA, FenF, FenG).
-/
import Derived.Test.YtijohkhpigjbkadGreatDoorPartD
import Derived.Deep.RegionHeld3
import Derived.Laws.OwnMore
import Derived.Deep.RegionLaw
/-
  WALKS: package store: checkValues, check.
-/
namespace Go.Proofs.YtijohkhpigjbkadGreatDoor
open Go.RowKit

set_option maxHeartbeats 400000 in
set_option maxRecDepth 100000 in
theorem beyond_any (vs : List MVar) (a : Value) (b1 b2 k : Nat) (t : MVar) (z : Int) (w : World) (hv : VArg w a vs) (ht : vs[k]? = some t) (h1 : w.cell? ⟨b1, 0, none⟩ = some a) (h2 : w.cell? ⟨b2, 0, none⟩ = some (.int .i64 k)) :
    Calls Tryz.prog 170 #[.int .i64 z, .pointer (some ⟨b1, 0, none⟩), .pointer (some ⟨b2, 0, none⟩)] w fun e w' => e = .returned (.bool (!insideB t z)) ∧ w' = w := by
  obtain ⟨a', c, rfl, hm, hr⟩ := hv
  have hkl : k < vs.length := (List.getElem?_eq_some_iff.1 ht).1
  obtain ⟨_, b, off, rfl, hlt, c0, c1, c2⟩ := hr k t ht
  unfold maxLen at hm
  obtain ⟨hm1, hm⟩ := hm
  clear hr ht
  unfold insideB
  by_cases q1 : z < t.lo
  · go_enter Tryz.func170, Tryz.ntmps170
    go_wp2
    go_ret
    exact ⟨ret_bool (by first | rfl | (simp; omega)), rfl⟩
  · by_cases q2 : t.hi < z
    · go_enter Tryz.func170, Tryz.ntmps170
      go_wp2
      go_ret
      exact ⟨ret_bool (by first | rfl | (simp; omega)), rfl⟩
    · go_enter Tryz.func170, Tryz.ntmps170
      go_wp2
      go_ret
      exact ⟨ret_bool (by first | rfl | (simp; omega)), rfl⟩

theorem enters_beyond (args : Array Value) (w' : World) : Sem.run Tryz.prog (callFunc 170 args) w' = .ok (.enter 170 args) w' := by
  simp [callFunc, go_sem, Tryz.func170, Tryz.f170]
theorem any_not {α : Type} (p : α → Bool) (l : List α) : (l.any fun x => !p x) = !l.all p := by
  induction l with
  | nil => rfl
  | cons a r ih => rw [List.any_cons, List.all_cons, ih]; cases p a <;> simp

set_option maxHeartbeats 1600000 in
set_option maxRecDepth 100000 in
theorem values_any (vs : List MVar) (s : Sto) (a v : Value) (w : World) (ha : VArg w a vs) (hv : RArg w v s) :
    Calls Tryz.prog 161 #[a, v] w fun e w' => e = .returned (.int .i64 (checkV vs s)) ∧ Below w.heap.size w w' := by
  have HA : Hid (∀ w' : World, Below w.heap.size w w' → VArg w' a vs) := fun w' h => VArg.below h ha
  have HVB : Hid (∀ w' : World, Below w.heap.size w w' → RArg w' v s) := fun w' h => RArg.below h hv
  obtain ⟨a1, c1, rfl, hl1, hr1⟩ := ha
  obtain ⟨a2, c2, rfl, hl2, hr2⟩ := hv
  obtain ⟨R, hR⟩ : ∃ R, checkV vs s = R := ⟨_, rfl⟩
  rw [hR]
  unfold maxLen at hl1 hl2
  obtain ⟨hl11, hl1⟩ := hl1
  obtain ⟨hl21, hl2⟩ := hl2
  clear hr1 hr2
  by_cases h0 : s.length = vs.length
  · have HE : Hid (R = if (vs.zip s).all (fun p => p.2.all (insideB p.1)) then (if s.all risesB then 0 else 4) else 3) := by
      rw [← hR]; unfold checkV rangeS; rw [if_pos h0]; rfl
    have g0 : ((s.length : Int) != (vs.length : Int)) = false := by simp [h0]
    have H0 : Hid (s.length = vs.length) := h0
    clear hR h0
    go_enter Tryz.func161, Tryz.ntmps161
    go_wp2_with fail
    obtain ⟨w0, hw0⟩ : ∃ w0 : World, w0 = w.alloc (.cells #[.slice a1 vs.length c1] 22) := ⟨_, rfl⟩
    rw [← hw0]
    have HB0 : Hid (Below w.heap.size w w0) := by rw [hw0]; exact below_alloc _ _
    have HZ0 : Hid (w0.heap.size = w.heap.size + 1) := by show _ = _; show _ = _; rw [hw0]; simp
    have HD : Hid (w0.cell? ⟨w.heap.size, 0, none⟩ = some (.slice a1 vs.length c1)) := by show _ = _; rw [hw0]; simp
    clear hw0
    go_loopw [17] (fun i wr => ∃ k : Nat, k ≤ s.length ∧ i = .int .i64 k ∧ Hid (((vs.zip s).take k).all (fun p => p.2.all (insideB p.1)) = true) ∧ Below w0.heap.size w0 wr) (fun i _ => s.length - (intOf i).toNat)
    case atStart => exact ⟨0, by omega, rfl, rfl, Below.refl _ _⟩
    case round =>
      obtain ⟨k, hk, rfl, hall, hbw⟩ := hrel
      have hlt0 : w.heap.size < w0.heap.size := by rw [HZ0.out]; omega
      have HBW : Hid (Below w.heap.size w wr) := HB0.out.trans (hbw.mono (by omega))
      by_cases hlt : k < s.length
      · obtain ⟨t, ht⟩ : ∃ t, vs[k]? = some t := ⟨vs[k]'(by rw [← H0.out]; exact hlt), by simp⟩
        obtain ⟨r, hrr⟩ : ∃ r, s[k]? = some r := ⟨s[k], by simp [hlt]⟩
        have HG : Hid ((vs.zip s)[k]? = some (t, r)) := by show _ = _; rw [List.getElem?_zip_eq_some]; exact ⟨ht, hrr⟩
        obtain ⟨a2', c2', hva, _, hrc⟩ := HVB.out _ HBW.out
        obtain ⟨b, off, x, hax, hb, hc, hix⟩ := hrc k r hrr
        have ha2 : a2 = some ⟨b, off, none⟩ := by cases hva; exact hax
        subst ha2
        have HIX : Hid (IArg wr x r) := hix
        have HT : Hid (vs[k]? = some t) := ht
        obtain ⟨a3, c3, rfl, _, _⟩ := hix
        have hsz := hbw.size
        clear ht hrr hva hrc hax
        go_wp2_with fail
        have hwk : (wr.alloc (.cells #[.int .i64 (k : Int)] 3)).cell? ⟨wr.heap.size, 0, none⟩ = some (.int .i64 k) := by simp
        have hbx : Below w.heap.size w (wr.alloc (.cells #[.int .i64 (k : Int)] 3)) := HBW.out.trans ((below_alloc _ _).mono HBW.out.size)
        have hbx0 : Below w0.heap.size w0 (wr.alloc (.cells #[.int .i64 (k : Int)] 3)) := hbw.alloc hsz _
        have hsx : (wr.alloc (.cells #[.int .i64 (k : Int)] 3)).heap.size = wr.heap.size + 1 := by simp
        obtain ⟨wx, hwx⟩ : ∃ wx : World, wx = wr.alloc (.cells #[.int .i64 (k : Int)] 3) := ⟨_, rfl⟩
        rw [← hwx] at hwk hbx hbx0 hsx ⊢
        have HIX2 : Hid (IArg wx (.slice a3 r.length c3) r) := by rw [hwx]; exact IArg.below (below_alloc _ _) HIX.out
        clear hwx
        refine (containsf_ints 170 _ (fun z => !insideB t z) r _ _ HIX2.out ⟨enters_beyond, ?_⟩).mono ?_
        · intro z w2 hb2
          have g1 := (hb2.cell (p := ⟨w.heap.size, 0, none⟩) (by simp only; omega)).trans ((hbx0.cell (p := ⟨w.heap.size, 0, none⟩) hlt0).trans HD.out)
          have g2 := (hb2.cell (p := ⟨wr.heap.size, 0, none⟩) (by simp only; omega)).trans hwk
          refine (beyond_any vs _ _ _ k t z w2 (HA.out _ (hbx.trans (hb2.mono (by omega)))) HT.out g1 g2).mono ?_
          rintro e w3 ⟨rfl, rfl⟩
          exact ⟨rfl, Below.refl _ _⟩
        rintro e w2 ⟨rfl, hb2⟩
        rw [any_not]
        have hbt : Below w0.heap.size w0 w2 := hbx0.trans (hb2.mono (by omega))
        cases hq : r.all (insideB t)
        · have HN : Hid (R = 3) := by
            have := all_hit (fun p : MVar × List Int => p.2.all (insideB p.1)) (vs.zip s) k (t, r) HG.out hq
            rw [HE.out, this]; rfl
          clear hq
          go_wp2
          go_ret
          exact ⟨ret_int HN.out.symm, HB0.out.trans (hbt.mono (by omega))⟩
        · have HN : Hid (((vs.zip s).take (k + 1)).all (fun p => p.2.all (insideB p.1)) = true) := all_next _ (vs.zip s) k (t, r) HG.out hall.out hq
          clear hq
          go_wp2
          go_roundw
          case rel => exact ⟨k + 1, by omega, by go_num, HN, hbt⟩
          case measure => simp [intOf]; omega
      · have HV : Hid ((vs.zip s).all (fun p => p.2.all (insideB p.1)) = true) := all_end _ _ k (by rw [List.length_zip, ← H0.out]; omega) hall.out
        have HE2 : Hid (R = if s.all risesB then 0 else 4) := by rw [HE.out, HV.out]; rfl
        have HBO : Hid (Below w.heap.size w wr) := HBW.out
        obtain ⟨wo, rfl⟩ : ∃ wo : World, wo = wr := ⟨_, rfl⟩
        go_wp2
        clear hk hall hbw hlt
        go_loopw [29] (fun i wr => ∃ k : Nat, k ≤ s.length ∧ i = .int .i64 k ∧ Hid ((s.take k).all risesB = true) ∧ Below w.heap.size w wr) (fun i _ => s.length - (intOf i).toNat)
        case atStart => exact ⟨0, by omega, rfl, rfl, HBO.out⟩
        case round =>
          obtain ⟨k, hk, rfl, hall, hbw⟩ := hrel
          by_cases hlt : k < s.length
          · obtain ⟨r, hrr⟩ : ∃ r, s[k]? = some r := ⟨s[k], by simp [hlt]⟩
            obtain ⟨a2', c2', hva, _, hrc⟩ := HVB.out _ hbw
            obtain ⟨b, off, x, hax, hb, hc, hix⟩ := hrc k r hrr
            have ha2 : a2 = some ⟨b, off, none⟩ := by cases hva; exact hax
            subst ha2
            have HIX : Hid (IArg wr x r) := hix
            have HRR : Hid (s[k]? = some r) := hrr
            obtain ⟨a3, c3, rfl, _, _⟩ := hix
            clear hrr hva hrc hax
            cases hq : risesB r
            · have HN : Hid (R = 4) := by rw [HE2.out, all_hit risesB s k r HRR.out hq]; rfl
              go_wp2_with fail
              refine (rises_any r _ _ HIX.out).mono ?_
              rintro e w2 ⟨rfl, n, hw2⟩
              rw [hq]
              have hb2 := hbw.trans ((draws_below hw2).mono hbw.size)
              clear hq hw2
              go_wp2
              go_ret
              exact ⟨ret_int HN.out.symm, hb2⟩
            · have HN : Hid ((s.take (k + 1)).all risesB = true) := all_next _ s k r HRR.out hall.out hq
              go_wp2_with fail
              refine (rises_any r _ _ HIX.out).mono ?_
              rintro e w2 ⟨rfl, n, hw2⟩
              rw [hq]
              have hb2 := hbw.trans ((draws_below hw2).mono hbw.size)
              clear hq hw2
              go_wp2
              go_roundw
              case rel => exact ⟨k + 1, by omega, by go_num, HN, hb2⟩
              case measure => simp [intOf]; omega
          · have HN : Hid (R = 0) := by rw [HE2.out, all_end _ s k hlt hall.out]; rfl
            go_wp2
            go_ret
            exact ⟨ret_int HN.out.symm, hbw⟩
  · have HE : Hid (R = 1) := by rw [← hR]; unfold checkV; rw [if_neg h0]; rfl
    have g0 : ((s.length : Int) != (vs.length : Int)) = true := by simp; omega
    clear hR h0
    go_enter Tryz.func161, Tryz.ntmps161
    go_wp2
    go_ret
    exact ⟨ret_int HE.out.symm, below_alloc _ _⟩

/-- Stores, one after the other, as a variadic call has them. -/
def GArg (w : World) (v : Value) (l : List Sto) : Prop :=
  ∃ a c, v = .slice a l.length c ∧ (l.length ≤ c ∧ c ≤ maxLen) ∧ ∀ (i : Nat) (r : Sto), l[i]? = some r → ∃ b off x, a = some ⟨b, off, none⟩ ∧ b < w.heap.size ∧ w.cell? ⟨b, off + i, none⟩ = some x ∧ RArg w x r
theorem GArg.below {w w' : World} {v : Value} {l : List Sto} (hb : Below w.heap.size w w') (h : GArg w v l) : GArg w' v l := by
  obtain ⟨a, c, hv, hm, hr⟩ := h
  refine ⟨a, c, hv, hm, fun i z hz => ?_⟩
  obtain ⟨b, off, x, ha, hlt, hc, hx⟩ := hr i z hz
  exact ⟨b, off, x, ha, Nat.lt_of_lt_of_le hlt hb.size, (hb.cell (p := ⟨b, off + i, none⟩) hlt).trans hc, RArg.below hb hx⟩

set_option maxHeartbeats 1600000 in
set_option maxRecDepth 100000 in
theorem check_any2 (m : Mod) (l : List Sto) (vs cs v : Value) (w : World) (hm : MArg w vs cs m) (hv : GArg w v l) :
    Calls Tryz.prog 148 #[modV vs cs m, v] w fun e w' => e = .returned (.int .i64 (checkL m l)) ∧ Below w.heap.size w w' := by
  have HMA : Hid (∀ w' : World, Below w.heap.size w w' → MArg w' vs cs m) := fun w' h => MArg.below h hm
  have HGA : Hid (∀ w' : World, Below w.heap.size w w' → GArg w' v l) := fun w' h => GArg.below h hv
  obtain ⟨⟨a1, c1, rfl, _, _⟩, ⟨a2, c2, rfl, _, _⟩⟩ := hm
  obtain ⟨a3, c3, rfl, hl3, _⟩ := hv
  unfold maxLen at hl3
  obtain ⟨hl31, hl3⟩ := hl3
  obtain ⟨R, hR⟩ : ∃ R, checkL m l = R := ⟨_, rfl⟩
  rw [hR]
  obtain ⟨er, her⟩ : ∃ er, checkM m = er := ⟨_, rfl⟩
  have HER : Hid (checkM m = er) := her
  have HE : Hid (R = if er = 0 then firstE (l.map (checkV m.vars)) else er) := by rw [← hR, ← her]; rfl
  clear hR her
  unfold modV
  go_enter Tryz.func148, Tryz.ntmps148
  go_wp2_with fail
  refine (check_model m _ _ _ (HMA.out _ (below_alloc _ _))).mono ?_
  rintro e w1 ⟨rfl, hb1⟩
  rw [HER.out]
  have d0 : w1.cell? ⟨w.heap.size, 0, none⟩ = some (.slice a1 m.vars.length c1) := (hb1.cell (by simp)).trans (by simp)
  have HB1 : Hid (Below w.heap.size w w1) := (below_alloc _ _).trans (hb1.mono (by simp))
  have hs1 : w.heap.size + 1 ≤ w1.heap.size := by simpa using hb1.size
  clear hb1
  by_cases he : er = 0
  · subst he
    have HE2 : Hid (R = firstE (l.map (checkV m.vars))) := by rw [HE.out, if_pos rfl]; rfl
    go_wp2_with fail
    go_loopw [16] (fun i wr => ∃ k : Nat, k ≤ l.length ∧ i = .int .i64 k ∧ Hid (firstE ((l.map (checkV m.vars)).take k) = 0) ∧ Below w1.heap.size w1 wr) (fun i _ => l.length - (intOf i).toNat)
    case atStart => exact ⟨0, by omega, rfl, rfl, Below.refl _ _⟩
    case round =>
      obtain ⟨k, hk, rfl, hno, hbw⟩ := hrel
      have HBW : Hid (Below w.heap.size w wr) := HB1.out.trans (hbw.mono (by omega))
      have e0 := (hbw.cell (p := ⟨w.heap.size, 0, none⟩) (by simp only; omega)).trans d0
      by_cases hlt : k < l.length
      · obtain ⟨s, hs⟩ : ∃ s, l[k]? = some s := ⟨l[k], by simp [hlt]⟩
        have HG : Hid ((l.map (checkV m.vars))[k]? = some (checkV m.vars s)) := by show _ = _; rw [List.getElem?_map, hs]; rfl
        obtain ⟨a2', c2', hva, _, hrc⟩ := HGA.out _ HBW.out
        obtain ⟨b, off, x, hax, hb, hc, hix⟩ := hrc k s hs
        have ha2 : a3 = some ⟨b, off, none⟩ := by cases hva; exact hax
        subst ha2
        have HIX : Hid (RArg wr x s) := hix
        obtain ⟨a4, c4, rfl, _, _⟩ := hix
        clear hs hva hrc hax
        go_wp2_with fail
        refine (values_any m.vars s _ _ _ (HMA.out _ HBW.out).1 HIX.out).mono ?_
        rintro e w2 ⟨rfl, hb2⟩
        obtain ⟨eq, heq⟩ : ∃ eq, checkV m.vars s = eq := ⟨_, rfl⟩
        have HG2 : Hid ((l.map (checkV m.vars))[k]? = some eq) := by rw [← heq]; exact HG.out
        rw [heq]
        clear heq
        have hbt : Below w1.heap.size w1 w2 := hbw.trans (hb2.mono hbw.size)
        by_cases hz : eq = 0
        · subst hz
          have HN : Hid (firstE ((l.map (checkV m.vars)).take (k + 1)) = 0) := firstE_step _ k hno.out HG2.out
          clear hb2
          go_wp2
          go_roundw
          case rel => exact ⟨k + 1, by omega, by go_num, HN, hbt⟩
          case measure => simp [intOf]; omega
        · have HN : Hid (R = eq) := by rw [HE2.out]; exact firstE_hit _ k eq hno.out HG2.out hz
          have he2 : (eq != 0) = true := by simpa using hz
          clear hb2 hz
          go_wp2
          go_ret
          exact ⟨ret_int HN.out.symm, HB1.out.trans (hbt.mono (by omega))⟩
      · have HN : Hid (R = 0) := by
          have := hno.out; rw [List.take_of_length_le (by simp; omega)] at this; rw [HE2.out]; exact this
        go_wp2
        go_ret
        exact ⟨ret_int HN.out.symm, HBW.out⟩
  · have HN : Hid (R = er) := by rw [HE.out, if_neg he]; rfl
    have he2 : (er != 0) = true := by simpa using he
    clear he
    go_wp2
    go_ret
    exact ⟨ret_int HN.out.symm, HB1.out⟩
end Go.Proofs.YtijohkhpigjbkadGreatDoor
/-
  WALKS: package store: Check, Within, Failed.
-/
namespace Go.Proofs.YtijohkhpigjbkadGreatDoor
open Go.RowKit

/-- One store, or two, in a row of their own. -/
theorem garg_one {w : World} {v : Value} {s : Sto} {B : Nat} (hB : B = w.heap.size) (h : RArg w v s) : GArg (w.alloc (.cells #[v] 75)) (.slice (some ⟨B, 0, none⟩) 1 1) [s] := by
  subst hB
  refine ⟨_, 1, rfl, ⟨by simp, by unfold maxLen; omega⟩, fun i r hr => ?_⟩
  match i, hr with
  | 0, hr => cases hr; exact ⟨_, _, v, rfl, by simp, by simp, RArg.below (below_alloc _ _) h⟩
theorem garg_two {w : World} {v u : Value} {s t : Sto} {B : Nat} (hB : B = w.heap.size) (h : RArg w v s) (k : RArg w u t) : GArg (w.alloc (.cells #[v, u] 75)) (.slice (some ⟨B, 0, none⟩) 2 2) [s, t] := by
  subst hB
  refine ⟨_, 2, rfl, ⟨by simp, by unfold maxLen; omega⟩, fun i r hr => ?_⟩
  match i, hr with
  | 0, hr => cases hr; exact ⟨_, _, v, rfl, by simp, by simp, RArg.below (below_alloc _ _) h⟩
  | 1, hr => cases hr; exact ⟨_, _, u, rfl, by simp, by simp, RArg.below (below_alloc _ _) k⟩

set_option maxHeartbeats 800000 in
set_option maxRecDepth 100000 in
theorem scheck_any (m : Mod) (s : Sto) (vs cs v : Value) (w : World) (hm : MArg w vs cs m) (hv : RArg w v s) :
    Calls Tryz.prog 116 #[modV vs cs m, v] w fun e w' => e = .returned (.int .i64 (checkL m [s])) ∧ Below w.heap.size w w' := by
  have HMA : Hid (∀ w' : World, Below w.heap.size w w' → MArg w' vs cs m) := fun w' h => MArg.below h hm
  have HVA : Hid (∀ w' : World, Below w.heap.size w w' → RArg w' v s) := fun w' h => RArg.below h hv
  obtain ⟨⟨a1, c1, rfl, _, _⟩, ⟨a2, c2, rfl, _, _⟩⟩ := hm
  obtain ⟨a3, c3, rfl, _, _⟩ := hv
  obtain ⟨R, HR⟩ : ∃ R, Hid (checkL m [s] = R) := ⟨_, rfl⟩
  rw [HR.out]
  unfold modV
  go_enter Tryz.func116, Tryz.ntmps116
  go_wp2_with fail
  refine (check_any2 m [s] (.slice a1 m.vars.length c1) (.slice a2 m.cons.length c2) _ _ ?_ ?_).mono ?_
  · exact HMA.out _ ((below_alloc _ _).alloc (by simp) _)
  · exact garg_one (by simp) (HVA.out _ (below_alloc _ _))
  rintro e w1 ⟨rfl, hb1⟩
  rw [HR.out]
  have hb : Below w.heap.size w w1 := (((below_alloc _ _).alloc (by simp) _)).trans (hb1.mono (by simp; omega))
  clear hb1
  go_wp2
  go_ret
  exact ⟨rfl, hb⟩

def withinA (m : Mod) (s t : Sto) : Bool × Int := if checkL m [s, t] = 0 then (withinS s t, 0) else (false, checkL m [s, t])
theorem checkL_two (m : Mod) (s t : Sto) : checkL m [s, t] = 0 ↔ checkM m = 0 ∧ checkV m.vars s = 0 ∧ checkV m.vars t = 0 := by
  unfold checkL
  by_cases h : checkM m = 0
  · rw [if_pos h]
    simp only [List.map, firstE]
    by_cases h1 : checkV m.vars s = 0
    · rw [if_pos h1]
      by_cases h2 : checkV m.vars t = 0
      · simp [h, h1, h2]
      · simp [h2]
    · simp [h1]
  · rw [if_neg h]; simp [h]

set_option maxHeartbeats 400000 in
theorem empty_any (r : List Int) (v : Value) (w : World) (hv : IArg w v r) :
    Calls Tryz.prog 150 #[v] w fun e w' => e = .returned (.bool (decide (r.length = 0))) ∧ w' = w := by
  obtain ⟨a, c, rfl, _, _⟩ := hv
  by_cases h : r.length = 0
  · have g : ((r.length : Int) == 0) = true := by simp [h]
    have h1 : decide (r.length = 0) = true := decide_eq_true h
    rw [h1]; clear h h1
    go_enter Tryz.func150, Tryz.ntmps150
    go_wp2
    go_ret
    exact ⟨rfl, rfl⟩
  · have g : ((r.length : Int) == 0) = false := by simpa using h
    have h1 : decide (r.length = 0) = false := decide_eq_false h
    rw [h1]; clear h h1
    go_enter Tryz.func150, Tryz.ntmps150
    go_wp2
    go_ret
    exact ⟨rfl, rfl⟩

set_option maxHeartbeats 800000 in
set_option maxRecDepth 100000 in
theorem indexf_empty (s : Sto) (v : Value) (w : World) (hv : RArg w v s) :
    Calls Tryz.prog 162 #[v, .func (.func 150) #[] #[]] w fun e w' => (∃ z : Int, e = .returned (.int .i64 z) ∧ decide (0 ≤ z) = failedS s) ∧ w' = w := by
  obtain ⟨a, c, rfl, hm, hr⟩ := hv
  have HV : Hid (∀ (i : Nat) (r : List Int), s[i]? = some r → ∃ b off x, a = some ⟨b, off, none⟩ ∧ b < w.heap.size ∧ w.cell? ⟨b, off + i, none⟩ = some x ∧ IArg w x r) := hr
  obtain ⟨R, hR⟩ : ∃ R, failedS s = R := ⟨_, rfl⟩
  rw [hR]
  have HR : Hid ((s.any fun r => decide (r.length = 0)) = R) := hR
  unfold maxLen at hm
  obtain ⟨hm1, hm⟩ := hm
  clear hr hR
  go_enter Tryz.func162, Tryz.ntmps162
  go_wp2_with fail
  go_loop [8] (fun i => ∃ m : Nat, m ≤ s.length ∧ i = .int .i64 m ∧ Hid ((s.take m).any (fun r => decide (r.length = 0)) = false)) (fun i => s.length - (intOf i).toNat)
  case atStart => exact ⟨0, by omega, rfl, rfl⟩
  case round =>
    obtain ⟨m, hml, rfl, hall⟩ := hrel
    by_cases hlt : m < s.length
    · obtain ⟨r, hz⟩ : ∃ r, s[m]? = some r := ⟨s[m], by simp [hlt]⟩
      obtain ⟨b, off, x, ha, hb, hc, hx⟩ := HV.out m r hz
      have HX : Hid (IArg w x r) := hx
      obtain ⟨a5, c5, rfl, _, _⟩ := hx
      have HZ : Hid (s[m]? = some r) := hz
      subst ha
      clear hz
      cases hq : decide (r.length = 0)
      · have HN : Hid ((s.take (m + 1)).any (fun r => decide (r.length = 0)) = false) := any_next (fun r : List Int => decide (r.length = 0)) s m r HZ.out hall.out hq
        have HQ : Hid (decide (r.length = 0) = false) := hq
        clear hq
        go_wp2_with fail
        refine (empty_any r _ _ HX.out).mono ?_
        rintro e w ⟨rfl, rfl⟩
        rw [HQ.out]
        go_wp2
        go_round
        case rel => exact ⟨m + 1, by omega, by go_num, HN⟩
        case measure => simp [intOf]; omega
      · have HN : Hid (R = true) := by rw [← HR.out]; exact any_hit (fun r : List Int => decide (r.length = 0)) s m r HZ.out hq
        have HQ : Hid (decide (r.length = 0) = true) := hq
        clear hq
        go_wp2_with fail
        refine (empty_any r _ _ HX.out).mono ?_
        rintro e w ⟨rfl, rfl⟩
        rw [HQ.out]
        go_wp2
        go_ret
        exact ⟨⟨_, rfl, by rw [HN.out]; simp⟩, rfl⟩
    · have HN : Hid (R = false) := by rw [← HR.out]; exact any_end _ s m hlt hall.out
      go_wp2
      go_ret
      exact ⟨⟨_, rfl, by rw [HN.out]; rfl⟩, rfl⟩

set_option maxHeartbeats 400000 in
theorem containsf_empty (s : Sto) (v : Value) (w : World) (hv : RArg w v s) :
    Calls Tryz.prog 149 #[v, .func (.func 150) #[] #[]] w fun e w' => e = .returned (.bool (failedS s)) ∧ w' = w := by
  go_enter Tryz.func149, Tryz.ntmps149
  go_wp2_with fail
  refine (indexf_empty s v _ hv).mono ?_
  rintro e w ⟨⟨z, rfl, hz⟩, rfl⟩
  have HZ : Hid (decide (0 ≤ z) = failedS s) := hz
  clear hz
  go_wp2
  go_ret
  exact ⟨ret_bool HZ.out, rfl⟩

set_option maxHeartbeats 400000 in
theorem sift_failed (s : Sto) (v : Value) (w : World) (hv : RArg w v s) :
    Calls Tryz.prog 118 #[v] w fun e w' => e = .returned (.bool (failedS s)) ∧ w' = w := by
  go_enter Tryz.func118, Tryz.ntmps118
  go_wp2_with fail
  refine (containsf_empty s v _ hv).mono ?_
  rintro e w ⟨rfl, rfl⟩
  go_wp2
  go_ret
  exact ⟨rfl, rfl⟩

def failedA (m : Mod) (s : Sto) : Bool × Int := if checkL m [s] = 0 then (failedS s, 0) else (false, checkL m [s])
end Go.Proofs.YtijohkhpigjbkadGreatDoor
/-
  WALKS: package fence: Whole, Stored, Held, Says.
-/
namespace Go.Proofs.YtijohkhpigjbkadGreatDoor
open Go.RowKit

set_option maxHeartbeats 400000 in
theorem wholes_any (x y : Value) (w : World) : Calls Tryz.prog 101 #[x, y] w fun e w' => e = .returned (.bool true) ∧ Below w.heap.size w w' := by
  go_enter Tryz.func101, Tryz.ntmps101
  go_wp2
  go_ret
  exact ⟨rfl, Below.refl _ _⟩
theorem enters_whole (args : Array Value) (w' : World) : Sem.run Tryz.prog (callFunc 101 args) w' = .ok (.enter 101 args) w' := by
  simp [callFunc, go_sem, Tryz.func101, Tryz.f101]
set_option maxHeartbeats 400000 in
theorem whole_any (vs : List MVar) (hva : VarsAll vs) (sv : Value) (w : World) (hv : VArg w sv vs) :
    Calls Tryz.prog 58 #[sv] w fun e w' => e = .returned (.int .u64 ((wholeP vs : Nat) : Int)) ∧ Below w.heap.size w w' := by
  have HV : Hid (VArg w sv vs) := hv
  have HVO : Hid (VarsAll vs) := hva
  obtain ⟨a, c, rfl, _, _⟩ := hv
  clear hva
  go_enter Tryz.func58, Tryz.ntmps58
  go_wp2_with fail
  refine (of_any 101 #[] vs (fun _ _ => true) HVO.out _ _ HV.out ⟨enters_whole, fun k z w' _ _ _ _ => wholes_any _ _ w'⟩).mono ?_
  rintro e w1 ⟨rfl, hb1⟩
  go_wp2
  go_ret
  exact ⟨rfl, hb1⟩


set_option maxHeartbeats 400000 in
theorem held_one (c : Cla) (k : Nat) (z : Int) (u : Value) (b1 : Nat) (w : World) (hu : LArg w u c) (h1 : w.cell? ⟨b1, 0, none⟩ = some u) :
    Calls Tryz.prog 63 #[.int .i64 k, .int .i64 z, .pointer (some ⟨b1, 0, none⟩)] w fun e w' => e = .returned (.bool (oneB c k z)) ∧ Below w.heap.size w w' := by
  have HU : Hid (LArg w u c) := hu
  obtain ⟨a, cc, rfl, _, _⟩ := hu
  go_enter Tryz.func63, Tryz.ntmps63
  go_wp2_with fail
  refine (one_of c k z _ _ HU.out).mono ?_
  rintro e w1 ⟨rfl, hb1⟩
  go_wp2
  go_ret
  exact ⟨rfl, hb1⟩
theorem enters_held (args : Array Value) (w' : World) : Sem.run Tryz.prog (callFunc 63 args) w' = .ok (.enter 63 args) w' := by
  simp [callFunc, go_sem, Tryz.func63, Tryz.f63]
set_option maxHeartbeats 400000 in
theorem held_any (vs : List MVar) (hva : VarsAll vs) (cl : Cla) (sv u : Value) (w : World) (hv : VArg w sv vs) (hu : LArg w u cl) :
    Calls Tryz.prog 26 #[sv, u] w fun e w' => e = .returned (.int .u64 ((heldP vs cl : Nat) : Int)) ∧ Below w.heap.size w w' := by
  have HV : Hid (∀ w', Below w.heap.size w w' → VArg w' sv vs) := fun w' h => VArg.below h hv
  have HU : Hid (∀ w', Below w.heap.size w w' → LArg w' u cl) := fun w' h => LArg.below h hu
  have HVO : Hid (VarsAll vs) := hva
  obtain ⟨a, c, rfl, _, _⟩ := hv
  obtain ⟨a2, c2, rfl, _, _⟩ := hu
  clear hva
  go_enter Tryz.func26, Tryz.ntmps26
  go_wp2_with fail
  refine (of_any 63 _ vs (fun v x => oneB cl v x) HVO.out _ _ (HV.out _ (below_alloc _ _)) ⟨enters_held, fun k z w' hk _ _ hb' => ?_⟩).mono ?_
  · exact held_one cl k z _ w.heap.size w' (HU.out _ ((below_alloc _ _).trans (hb'.mono (by simp)))) ((hb'.cell (by simp)).trans (World.cell?_alloc_at _ _ _ 0 (by simp)))
  rintro e w1 ⟨rfl, hb1⟩
  have hb2 : Below w.heap.size w w1 := (below_alloc _ _).trans (hb1.mono (by simp))
  clear hb1
  go_wp2
  go_ret
  exact ⟨rfl, hb2⟩

/-- A list of parts. -/
def PArg (w : World) (v : Value) (l : List Nat) : Prop :=
  ∃ a c, v = .slice a l.length c ∧ (l.length ≤ c ∧ c ≤ maxLen) ∧ ∀ (i z : Nat), l[i]? = some z → z < 2 ^ 36 ∧ ∃ b off, a = some ⟨b, off, none⟩ ∧ b < w.heap.size ∧ w.cell? ⟨b, off + i, none⟩ = some (.int .u64 z)
theorem PArg.below {w w' : World} {v : Value} {l : List Nat} (hb : Below w.heap.size w w') (h : PArg w v l) : PArg w' v l := by
  obtain ⟨a, c, hv, hm, hr⟩ := h
  refine ⟨a, c, hv, hm, fun i z hz => ?_⟩
  obtain ⟨hz36, b, off, ha, hlt, hc⟩ := hr i z hz
  exact ⟨hz36, b, off, ha, Nat.lt_of_lt_of_le hlt hb.size, (hb.cell (p := ⟨b, off + i, none⟩) hlt).trans hc⟩

set_option maxHeartbeats 400000 in
theorem stays_one (p h : Nat) (hp : p < 2 ^ 36) (hh : h < 2 ^ 36) (b1 : Nat) (w : World) (h1 : w.cell? ⟨b1, 0, none⟩ = some (.int .u64 h)) :
    Calls Tryz.prog 56 #[.int .u64 p, .pointer (some ⟨b1, 0, none⟩)] w fun e w' => e = .returned (.bool (stayP h p)) ∧ w' = w := by
  have hb := bits_and_u64_nat p h (by omega) (by omega)
  have HN : Hid (stayP h p = (((p &&& h : Nat) : Int) == 0)) := by
    show _ = _
    unfold stayP
    by_cases h0 : p &&& h = 0
    · simp [h0]
    · have : (((p &&& h : Nat) : Int) == 0) = false := by simpa using h0
      rw [this]; simpa using h0
  rw [HN.out]
  obtain ⟨q, hq⟩ : ∃ q, p &&& h = q := ⟨_, rfl⟩
  rw [hq] at hb ⊢
  clear hq hp hh
  go_enter Tryz.func56, Tryz.ntmps56
  go_wp2
  go_ret
  exact ⟨rfl, rfl⟩
theorem enters_stays1 (args : Array Value) (w' : World) : Sem.run Tryz.prog (callFunc 56 args) w' = .ok (.enter 56 args) w' := by
  simp [callFunc, go_sem, Tryz.func56, Tryz.f56]

set_option maxHeartbeats 400000 in
set_option maxRecDepth 100000 in
theorem indexf_parts (h : Nat) (hh : h < 2 ^ 36) (b1 : Nat) (l : List Nat) (v : Value) (w : World) (hv : PArg w v l) (h1 : w.cell? ⟨b1, 0, none⟩ = some (.int .u64 h)) :
    Calls Tryz.prog 102 #[v, .func (.func 56) #[] #[.pointer (some ⟨b1, 0, none⟩)]] w fun e w' => (∃ z : Int, e = .returned (.int .i64 z) ∧ (decide (0 ≤ z)) = l.any (stayP h)) ∧ w' = w := by
  obtain ⟨a, c, rfl, hm, hr⟩ := hv
  have HV : Hid (∀ (i z : Nat), l[i]? = some z → z < 2 ^ 36 ∧ ∃ b off, a = some ⟨b, off, none⟩ ∧ b < w.heap.size ∧ w.cell? ⟨b, off + i, none⟩ = some (.int .u64 z)) := hr
  have HH : Hid (h < 2 ^ 36) := hh
  unfold maxLen at hm
  obtain ⟨hm1, hm⟩ := hm
  clear hr hh
  go_enter Tryz.func102, Tryz.ntmps102
  go_wp2_with fail
  go_loopw [8] (fun i wr => ∃ k : Nat, k ≤ l.length ∧ i = .int .i64 k ∧ Hid ((l.take k).any (stayP h) = false) ∧ wr = w) (fun i _ => l.length - (intOf i).toNat)
  case atStart => exact ⟨0, by omega, rfl, rfl, rfl⟩
  case round =>
    obtain ⟨k, hk, rfl, hall, rfl⟩ := hrel
    by_cases hlt : k < l.length
    · obtain ⟨z, hz⟩ : ∃ z, l[k]? = some z := ⟨l[k], by simp [hlt]⟩
      obtain ⟨hz36, b, off, ha, hb, hc⟩ := HV.out k z hz
      subst ha
      have HZ : Hid (l[k]? = some z) := hz
      have HZ36 : Hid (z < 2 ^ 36) := hz36
      clear hz hz36
      cases hq : stayP h z
      · have HN : Hid ((l.take (k + 1)).any (stayP h) = false) := by show _ = _; rw [List.take_add_one, HZ.out, List.any_append, hall.out]; simp [hq]
        have HC := stays_one z h HZ36.out HH.out b1 wr h1
        rw [hq] at HC
        have HC2 : Hid (Calls Tryz.prog 56 #[.int .u64 z, .pointer (some ⟨b1, 0, none⟩)] wr fun e w' => e = .returned (.bool false) ∧ w' = wr) := HC
        clear HC hq hall
        go_wp2_with fail
        refine HC2.out.mono ?_
        rintro e w ⟨rfl, rfl⟩
        go_wp2
        go_roundw
        case rel => exact ⟨k + 1, by omega, by go_num, HN, trivial⟩
        case measure => simp [intOf]; omega
      · have HN : Hid (l.any (stayP h) = true) := List.any_eq_true.2 ⟨z, List.mem_of_getElem? HZ.out, hq⟩
        have HC := stays_one z h HZ36.out HH.out b1 wr h1
        rw [hq] at HC
        have HC2 : Hid (Calls Tryz.prog 56 #[.int .u64 z, .pointer (some ⟨b1, 0, none⟩)] wr fun e w' => e = .returned (.bool true) ∧ w' = wr) := HC
        clear HC hq hall
        go_wp2_with fail
        refine HC2.out.mono ?_
        rintro e w ⟨rfl, rfl⟩
        go_wp2
        go_ret
        exact ⟨⟨k, rfl, by rw [HN.out]; simp⟩, rfl⟩
    · have hke : k = l.length := by omega
      have HN : Hid (l.any (stayP h) = false) := by have := hall.out; rw [hke, List.take_length] at this; exact this
      clear hall hke
      go_wp2
      go_ret
      exact ⟨⟨-1, rfl, by rw [HN.out]; simp⟩, rfl⟩
set_option maxHeartbeats 400000 in
theorem containsf_parts (h : Nat) (hh : h < 2 ^ 36) (b1 : Nat) (l : List Nat) (v : Value) (w : World) (hv : PArg w v l) (h1 : w.cell? ⟨b1, 0, none⟩ = some (.int .u64 h)) :
    Calls Tryz.prog 59 #[v, .func (.func 56) #[] #[.pointer (some ⟨b1, 0, none⟩)]] w fun e w' => e = .returned (.bool (l.any (stayP h))) ∧ w' = w := by
  have HV : Hid (PArg w v l) := hv
  have HH : Hid (h < 2 ^ 36) := hh
  obtain ⟨a, c, rfl, _, _⟩ := hv
  clear hh
  go_enter Tryz.func59, Tryz.ntmps59
  go_wp2_with fail
  refine (indexf_parts h HH.out b1 l _ _ HV.out h1).mono ?_
  rintro e w ⟨⟨z, rfl, hz⟩, rfl⟩
  have HZ : Hid (decide (0 ≤ z) = l.any (stayP h)) := hz
  clear hz
  go_wp2
  go_ret
  exact ⟨ret_bool HZ.out, rfl⟩
end Go.Proofs.YtijohkhpigjbkadGreatDoor
/-
  PLAIN: reasons: the bits of a part, what can be spared of it; that a reason holds where the constraint does.
-/
namespace Go.Proofs.YtijohkhpigjbkadGreatDoor

/-- The bits of a part, from the least on. -/
def bitsL (p : Nat) : List Nat := (List.range 36).filter fun i => p.testBit i
theorem low_form (x : Nat) (h0 : x ≠ 0) (h : x < 2 ^ 64) : ∃ m, x = 2 ^ (Lib.ctz 64 x + 1) * m + 2 ^ Lib.ctz 64 x ∧ Lib.ctz 64 x < 64 := by
  obtain ⟨m, h1, h2⟩ := Lib.ctzFrom_spec 64 x (by omega) h
  have e : Lib.ctz 64 x = Lib.ctzFrom 64 x := by unfold Lib.ctz; rw [if_neg h0]
  rw [e]
  refine ⟨m, ?_, h2⟩
  conv => lhs; rw [h1]
  rw [Nat.pow_succ, Nat.mul_add, Nat.mul_one, Nat.mul_assoc]
theorem low_bits (x : Nat) (h0 : x ≠ 0) (h : x < 2 ^ 64) (i : Nat) : (i < Lib.ctz 64 x → x.testBit i = false) ∧ (i = Lib.ctz 64 x → x.testBit i = true) ∧ (x &&& (x - 1)).testBit i = (x.testBit i && !decide (i = Lib.ctz 64 x)) := by
  obtain ⟨m, h1, _⟩ := low_form x h0 h
  generalize hk : Lib.ctz 64 x = k at h1
  have hp : 0 < 2 ^ k := Nat.pow_pos (by omega)
  have hlt : 2 ^ k < 2 ^ (k + 1) := by rw [Nat.pow_succ]; omega
  have h2 : x - 1 = 2 ^ (k + 1) * m + (2 ^ k - 1) := by omega
  have t1 : x.testBit i = if i < k + 1 then decide (k = i) else m.testBit (i - (k + 1)) := by
    rw [h1, Nat.testBit_two_pow_mul_add _ hlt]
    split
    · exact testBit_pow k i
    · rfl
  have t2 : (x - 1).testBit i = if i < k + 1 then decide (i < k) else m.testBit (i - (k + 1)) := by
    rw [h2, Nat.testBit_two_pow_mul_add _ (by omega)]
    split
    · exact Nat.testBit_two_pow_sub_one ..
    · rfl
  refine ⟨fun hi => ?_, fun hi => ?_, ?_⟩
  · rw [t1, if_pos (by omega)]; simp; omega
  · rw [t1, if_pos (by omega)]; simp; omega
  · rw [Nat.testBit_and, t1, t2]
    by_cases hi : i < k + 1
    · rw [if_pos hi, if_pos hi]
      by_cases he : k = i
      · subst he; simp
      · simp [he]
    · rw [if_neg hi, if_neg hi, show decide (i = k) = false by simp; omega]; simp
theorem low_less (x : Nat) (h0 : x ≠ 0) (h : x < 2 ^ 64) : x &&& (x - 1) < x := by
  have h1 := low_bits x h0 h
  have hle : x &&& (x - 1) ≤ x := Nat.and_le_left
  have : x &&& (x - 1) ≠ x := fun he => by
    have h2 := (h1 (Lib.ctz 64 x)).2.2
    rw [he, (h1 (Lib.ctz 64 x)).2.1 rfl] at h2
    simp at h2
  omega
theorem bitsL_zero : bitsL 0 = [] := by simp [bitsL]
theorem bitsL_step (x : Nat) (h0 : x ≠ 0) (h : x < 2 ^ 36) : bitsL x = Lib.ctz 64 x :: bitsL (x &&& (x - 1)) ∧ Lib.ctz 64 x < 36 := by
  have h64 : x < 2 ^ 64 := Nat.lt_of_lt_of_le h (Nat.pow_le_pow_right (by omega) (by omega))
  have hb := low_bits x h0 h64
  have hk : Lib.ctz 64 x < 36 := by
    apply Classical.byContradiction
    intro hn
    have h1 := (hb (Lib.ctz 64 x)).2.1 rfl
    rw [Nat.testBit_lt_two_pow (Nat.lt_of_lt_of_le h (Nat.pow_le_pow_right (by omega) (by omega)))] at h1
    cases h1
  refine ⟨?_, hk⟩
  generalize hc : Lib.ctz 64 x = k at *
  unfold bitsL
  have hs : List.range 36 = List.range k ++ (k :: (List.range (36 - (k + 1))).map (· + (k + 1))) := by
    have h1 : List.range 36 = List.range ((k + 1) + (36 - (k + 1))) := by congr 1; omega
    rw [h1, List.range_add, List.range_succ, List.append_assoc]
    congr 1
    simp only [List.singleton_append, List.cons.injEq, true_and]
    apply List.map_congr_left
    intro a _
    omega
  rw [hs, List.filter_append, List.filter_append, List.filter_cons, List.filter_cons]
  have e1 : (List.range k).filter (fun i => x.testBit i) = [] := List.filter_eq_nil_iff.2 fun a ha => by
    rw [(hb a).1 (List.mem_range.1 ha)]; simp
  have e2 : (List.range k).filter (fun i => (x &&& (x - 1)).testBit i) = [] := List.filter_eq_nil_iff.2 fun a ha => by
    rw [(hb a).2.2, (hb a).1 (List.mem_range.1 ha)]; simp
  have e3 : x.testBit k = true := (hb k).2.1 rfl
  have e4 : (x &&& (x - 1)).testBit k = false := by rw [(hb k).2.2]; simp
  rw [e1, e2, e3, e4, if_pos rfl, if_neg (by simp), List.nil_append, List.nil_append]
  congr 1
  apply List.filter_congr
  intro a ha
  obtain ⟨b, _, rfl⟩ := List.mem_map.1 ha
  rw [(hb _).2.2, show decide (b + (k + 1) = k) = false by simp; omega]; simp
/-- A part's literals. -/
def litsP (vs : List MVar) (p : Nat) : Cla := (bitsL p).map fun i => ⟨((i / 6 : Nat) : Int), 3, (varAt vs (i / 6)).lo + ((i % 6 : Nat) : Int)⟩
theorem lits_len (vs : List MVar) (p : Nat) : (litsP vs p).length ≤ 36 := by
  unfold litsP bitsL
  rw [List.length_map]
  exact Nat.le_trans (List.length_filter_le _ _) (by simp)
/-- What can be spared is spared, bit by bit. -/
def spareP (says : Nat → Bool) : Nat → Nat → Nat → Nat
  | 0, gone, _ => gone
  | f + 1, gone, rest => if rest = 0 then gone else spareP says f (if says (lessN gone (2 ^ Lib.ctz 64 rest)) then lessN gone (2 ^ Lib.ctz 64 rest) else gone) (rest &&& (rest - 1))
theorem spare_says (says : Nat → Bool) : ∀ (f gone rest : Nat), says gone = true → says (spareP says f gone rest) = true
  | 0, gone, rest, h => h
  | f + 1, gone, rest, h => by
    unfold spareP
    split
    · exact h
    · apply spare_says
      split
      · assumption
      · exact h
theorem spare_sub (says : Nat → Bool) : ∀ (f gone rest i : Nat), (spareP says f gone rest).testBit i = true → gone.testBit i = true
  | 0, gone, rest, i, h => h
  | f + 1, gone, rest, i, h => by
    unfold spareP at h
    split at h
    · exact h
    · have := spare_sub says f _ _ i h
      split at this
      · rw [testBit_less, Bool.and_eq_true] at this
        exact this.1
      · exact this
theorem spare_fuel (says : Nat → Bool) : ∀ (f g gone rest : Nat), rest < f → rest < g → rest < 2 ^ 64 → spareP says f gone rest = spareP says g gone rest
  | 0, g, gone, rest, hf, hg, _ => by omega
  | f + 1, 0, gone, rest, hf, hg, _ => by omega
  | f + 1, g + 1, gone, rest, hf, hg, h => by
    unfold spareP
    split
    · rfl
    · rename_i h0
      have := low_less rest h0 h
      exact spare_fuel says f g _ _ (by omega) (by omega) (by omega)
theorem spare_step (says : Nat → Bool) (gone rest : Nat) (h0 : rest ≠ 0) (h : rest < 2 ^ 64) : spareP says (rest + 1) gone rest = spareP says ((rest &&& (rest - 1)) + 1) (if says (lessN gone (2 ^ Lib.ctz 64 rest)) then lessN gone (2 ^ Lib.ctz 64 rest) else gone) (rest &&& (rest - 1)) := by
  conv => lhs; unfold spareP
  rw [if_neg h0]
  have := low_less rest h0 h
  exact spare_fuel says _ _ _ _ (by omega) (by omega) (by omega)
def goneP (vs : List MVar) (s : Sto) : Nat := lessN (wholeP vs) (storedP vs s)
def leastP (vs : List MVar) (c : MCon) (s : Sto) (any : Cla) : Nat := spareP (fun g => saysP vs (pointsP vs c) (heldP vs any ||| g)) (goneP vs s + 1) (goneP vs s) (goneP vs s)
theorem bit_at (vs : List MVar) (hv : VarsOk vs) (f : Nat → Int → Bool) (v : Nat) (x : Int) (h : v < vs.length) (h1 : (varAt vs v).lo ≤ x) (h2 : x ≤ (varAt vs v).hi) : (ofP vs f).testBit (6 * v + (x - (varAt vs v).lo).toNat) = f v x := by
  have h3 := hv.2 v
  unfold sizeV at h3
  have e1 : (6 * v + (x - (varAt vs v).lo).toNat) / 6 = v := by omega
  have e2 : (6 * v + (x - (varAt vs v).lo).toNat) % 6 = (x - (varAt vs v).lo).toNat := by omega
  unfold ofP
  rw [testBit_of vs hv, e1, e2, show (varAt vs v).lo + (((x - (varAt vs v).lo).toNat : Nat) : Int) = x by omega]
  have e3 : (x - (varAt vs v).lo).toNat < sizeV (varAt vs v) := by unfold sizeV; omega
  simp [h, e3]
theorem mem_span_iff (lo hi x : Int) : x ∈ spanR lo hi ↔ lo ≤ x ∧ x ≤ hi := by
  refine ⟨fun h => ?_, fun h => mem_span lo hi x h.1 h.2⟩
  unfold spanR at h
  obtain ⟨k, hk, rfl⟩ := List.mem_map.1 h
  have := List.mem_range.1 hk
  omega
/-- Whatever is a point is one of values. -/
theorem points_back (vs : List MVar) (c : MCon) : ∀ (r u : List Int) (a p : Nat), (∀ v ∈ r, 0 ≤ v ∧ v < (vs.length : Int)) → u.length = vs.length → p ∈ pointsN vs c r u a →
    ∃ u' : List Int, u'.length = vs.length ∧ holdsC c u' = true ∧ (∀ v ∈ r, (varAt vs v.toNat).lo ≤ valAt u' v ∧ valAt u' v ≤ (varAt vs v.toNat).hi) ∧ (∀ w : Int, (∀ v ∈ r, v.toNat ≠ w.toNat) → valAt u' w = valAt u w) ∧
      (∀ i, a.testBit i = true → p.testBit i = true) ∧ ∀ v ∈ r, p.testBit (6 * v.toNat + (valAt u' v - (varAt vs v.toNat).lo).toNat) = true
  | [], u, a, p, _, hu, hp => by
    unfold pointsN at hp
    split at hp
    · rename_i hh
      rw [List.mem_singleton.1 hp]
      exact ⟨u, hu, hh, (fun v hv => by cases hv), (fun _ _ => rfl), (fun _ h => h), (fun v hv => by cases hv)⟩
    · cases hp
  | v :: r, u, a, p, hr, hu, hp => by
    unfold pointsN at hp
    obtain ⟨x, hx, hp⟩ := List.mem_flatMap.1 hp
    obtain ⟨h1, h2⟩ := (mem_span_iff _ _ _).1 hx
    obtain ⟨v0, v1⟩ := hr v (List.mem_cons_self ..)
    obtain ⟨u', l1, l2, l3, l4, l5, l6⟩ := points_back vs c r _ _ p (fun y hy => hr y (List.mem_cons_of_mem _ hy)) (by simpa using hu) hp
    have key : (∀ y ∈ r, y.toNat ≠ v.toNat) → valAt u' v = x := fun hq => by rw [l4 v hq, valAt_set_self _ _ _ (by omega)]
    have same : ∀ y ∈ r, y.toNat = v.toNat → y = v := fun y hy he => by
      have := hr y (List.mem_cons_of_mem _ hy)
      omega
    refine ⟨u', l1, l2, fun y hy => ?_, fun w hw => ?_, fun i hi => l5 i (by rw [Nat.testBit_or, hi]; rfl), fun y hy => ?_⟩
    · rcases List.mem_cons.1 hy with rfl | hy
      · by_cases hq : ∃ z ∈ r, z.toNat = y.toNat
        · obtain ⟨z, hz, he⟩ := hq
          rw [← same z hz he]; exact l3 z hz
        · rw [key fun z hz he => hq ⟨z, hz, he⟩]; exact ⟨h1, h2⟩
      · exact l3 y hy
    · rw [l4 w (fun y hy => hw y (List.mem_cons_of_mem _ hy)), valAt_set_ne _ _ _ _ (hw v (List.mem_cons_self ..))]
    · rcases List.mem_cons.1 hy with rfl | hy
      · by_cases hq : ∃ z ∈ r, z.toNat = y.toNat
        · obtain ⟨z, hz, he⟩ := hq
          rw [← same z hz he]; exact l6 z hz
        · rw [key fun z hz he => hq ⟨z, hz, he⟩]
          refine l5 _ ?_
          rw [Nat.testBit_or, testBit_pow]
          simp
      · exact l6 y hy
/-- A constraint says so, if none of its points stays. -/
theorem says_of (vs : List MVar) (c : MCon) (hsc : ∀ v ∈ scopeC c, 0 ≤ v ∧ v < (vs.length : Int)) (h : Nat)
    (hn : ∀ u : List Int, u.length = vs.length → holdsC c u = true → (∀ v ∈ scopeC c, (varAt vs v.toNat).lo ≤ valAt u v ∧ valAt u v ≤ (varAt vs v.toNat).hi) → ((scopeC c).length = 0 → u = zerosOf vs.length) →
      ∃ v ∈ scopeC c, h.testBit (6 * v.toNat + (valAt u v - (varAt vs v.toNat).lo).toNat) = true) : saysP vs (pointsP vs c) h = true := by
  unfold saysP
  have : (pointsP vs c).any (stayP h) = false := by
    cases hq : (pointsP vs c).any (stayP h)
    · rfl
    · obtain ⟨p, hp, hs⟩ := List.any_eq_true.1 hq
      obtain ⟨u, l1, l2, l3, l4, _, l6⟩ := points_back vs c _ _ _ p hsc (by simp [zerosOf]) hp
      obtain ⟨v, hv, hb⟩ := hn u l1 l2 l3 (fun h0 => by
        have he := List.eq_nil_of_length_eq_zero h0
        rw [he] at l4
        refine List.ext_getElem? fun i => ?_
        by_cases hi : i < vs.length
        · have := l4 (i : Int) (fun v hv => by cases hv)
          unfold valAt at this
          rw [Int.toNat_natCast, List.getD_eq_getElem?_getD, List.getD_eq_getElem?_getD, List.getElem?_eq_getElem (by omega), List.getElem?_eq_getElem (by simp [zerosOf]; exact hi)] at this
          rw [List.getElem?_eq_getElem (by omega), List.getElem?_eq_getElem (by simp [zerosOf]; exact hi)]
          exact congrArg some this
        · rw [List.getElem?_eq_none (by omega), List.getElem?_eq_none (by simp [zerosOf]; omega)])
      have h0 : p &&& h = 0 := by simpa [stayP] using hs
      have := congrArg (fun q => Nat.testBit q (6 * v.toNat + (valAt u v - (varAt vs v.toNat).lo).toNat)) h0
      simp only [Nat.testBit_and, l6 v hv, hb, Nat.zero_testBit] at this
      cases this
  rw [this]; simp
theorem gone_at (vs : List MVar) (hv : VarsOk vs) (s : Sto) (v : Nat) (x : Int) (h : v < vs.length) (h1 : (varAt vs v).lo ≤ x) (h2 : x ≤ (varAt vs v).hi) : (goneP vs s).testBit (6 * v + (x - (varAt vs v).lo).toNat) = !hasB (s.getD v []) x := by
  unfold goneP wholeP storedP
  rw [testBit_less, bit_at vs hv _ v x h h1 h2, bit_at vs hv _ v x h h1 h2]; rfl
/-- Where a constraint takes a value, it says so, if all that the store has not is held beside. -/
theorem says_removed (vs : List MVar) (hv : VarsOk vs) (c : MCon) (hsc : ∀ v ∈ scopeC c, 0 ≤ v ∧ v < (vs.length : Int)) (hl : c.kind = 10 → c.lits ≠ []) (s : Sto) (hs : s.length = vs.length) (k : Nat) (any : Cla) (zs : List Int)
    (hz : ∀ z ∈ zs, staysB c s k z = false) (hne : zs ≠ []) (hany : ∀ x, x ∈ s.getD k [] → oneB any k x = false → x ∈ zs) : saysP vs (pointsP vs c) (heldP vs any ||| goneP vs s) = true := by
  have hsc' : ∀ v ∈ scopeC c, 0 ≤ v ∧ v < (s.length : Int) := by rw [hs]; exact hsc
  have hz0 : ∃ z, staysB c s k z = false := by
    match zs, hne with
    | z :: _, _ => exact ⟨z, hz z (List.mem_cons_self ..)⟩
  obtain ⟨z0, hz0⟩ := hz0
  have hf : failedS s = false := by
    cases hf : failedS s
    · rfl
    · rw [stays_failed c s hf] at hz0; cases hz0
  refine says_of vs c hsc _ fun u h1 h2 h3 h4 => ?_
  apply Classical.byContradiction
  intro hno
  by_cases h0 : (scopeC c).length = 0
  · rw [stays_none c s hf h0, hs, ← h4 h0, h2] at hz0
    cases hz0
  · have hk : (k : Int) ∈ scopeC c := by
      apply Classical.byContradiction
      intro hk
      rw [stays_out c s h0 k z0 hk] at hz0
      cases hz0
    have hin : ∀ v ∈ scopeC c, valAt u v ∈ s.getD v.toNat [] ∧ oneB any v.toNat (valAt u v) = false := by
      intro v hvs
      have hr := hsc v hvs
      have hb := h3 v hvs
      cases hq : (heldP vs any ||| goneP vs s).testBit (6 * v.toNat + (valAt u v - (varAt vs v.toNat).lo).toNat)
      · rw [Nat.testBit_or, gone_at vs hv s v.toNat _ (by omega) hb.1 hb.2] at hq
        unfold heldP at hq
        rw [bit_at vs hv _ v.toNat _ (by omega) hb.1 hb.2] at hq
        rw [Bool.or_eq_false_iff] at hq
        refine ⟨(hasB_iff _ _).1 (by simpa using hq.2), hq.1⟩
      · exact absurd ⟨v, hvs, hq⟩ hno
    have hu := hin _ hk
    rw [Int.toNat_natCast] at hu
    have hst := hz _ (hany _ hu.1 hu.2)
    rw [stays_in c s hf k _ hk] at hst
    have : (metAll c s).contains ((k : Int), valAt u (k : Int)) = true := (met_iff c s hsc' hl k _ hk).2 ⟨u, by rw [hs]; exact h1, fun v hvs => (hin v hvs).1, h2, rfl⟩
    rw [this] at hst
    cases hst
theorem mem_bits (p i : Nat) (hi : i < 36) : i ∈ bitsL p ↔ p.testBit i = true := by
  unfold bitsL
  rw [List.mem_filter, List.mem_range]
  exact ⟨fun h => h.2, fun h => ⟨hi, h⟩⟩
/-- A part's literals hold where it is hit. -/
theorem lits_hold (vs : List MVar) (hv : VarsOk vs) (p : Nat) (vals : List Int) (hm : MayBe vs vals) (h : Hits vs vals p) : claB (litsP vs p) vals = true := by
  obtain ⟨v, hl, hb⟩ := h
  obtain ⟨p1, p2, p3⟩ := pos_parts vs hv vals hm v hl
  have h6 := hv.1
  have hi : posV vs vals v < 36 := by omega
  rw [claB_iff]
  refine ⟨_, List.mem_map.2 ⟨posV vs vals v, (mem_bits p _ hi).2 hb, rfl⟩, ?_⟩
  rw [p1, p3]
  unfold litV valAt
  simp
theorem lits_right (vs : List MVar) (hv : VarsOk vs) (hb : ∀ v : Nat, v < vs.length → -50 ≤ (varAt vs v).lo ∧ (varAt vs v).hi ≤ 50) (p : Nat) (hp : ∀ i, p.testBit i = true → (wholeP vs).testBit i = true) : ∀ l ∈ litsP vs p, litE vs l = 0 := by
  intro l hl
  obtain ⟨i, hi, rfl⟩ := List.mem_map.1 hl
  unfold bitsL at hi
  have h1 := hp i (List.mem_filter.1 hi).2
  unfold wholeP ofP at h1
  rw [testBit_of vs hv] at h1
  simp only [Bool.and_eq_true, decide_eq_true_eq] at h1
  have h2 := hb (i / 6) h1.1
  have h3 := h1.2.1
  unfold sizeV at h3
  unfold litE
  simp only
  rw [if_neg (by omega), if_neg (by omega), if_neg (by omega)]
theorem gone_whole (vs : List MVar) (s : Sto) (i : Nat) (h : (goneP vs s).testBit i = true) : (wholeP vs).testBit i = true := by
  unfold goneP at h
  rw [testBit_less, Bool.and_eq_true] at h
  exact h.1
/-- What Removed answers: a literal that stands anyway, and what can't be spared. -/
def notL (k : Nat) (z : Int) : MLit := ⟨(k : Int), 4, z⟩
def reasonP (vs : List MVar) (c : MCon) (s : Sto) (any : Cla) : Cla := any ++ litsP vs (leastP vs c s any)
theorem vars_bounds (m : Mod) (hm : checkM m = 0) (v : Nat) (h : v < m.vars.length) : -50 ≤ (varAt m.vars v).lo ∧ (varAt m.vars v).hi ≤ 50 := by
  have e : m.vars[v]? = some (varAt m.vars v) := by unfold varAt; rw [List.getD_eq_getElem?_getD, List.getElem?_eq_getElem h]; rfl
  have := var_ok m hm v _ e
  omega
theorem firstE_zero (l : List Int) (h : ∀ e ∈ l, e = 0) : firstE l = 0 := by
  induction l with
  | nil => rfl
  | cons a r ih =>
    unfold firstE
    rw [if_pos (h a (List.mem_cons_self ..))]
    exact ih fun e he => h e (List.mem_cons_of_mem _ he)
theorem reason_right (m : Mod) (hm : checkM m = 0) (c : MCon) (s : Sto) (any : Cla) (ha : any.length ≤ 1) (hr : ∀ l ∈ any, litE m.vars l = 0) : claE m.vars (reasonP m.vars c s any) = 0 := by
  have h1 := lits_len m.vars (leastP m.vars c s any)
  unfold claE
  rw [if_neg (by unfold reasonP; rw [List.length_append]; omega)]
  refine firstE_zero _ fun e he => ?_
  obtain ⟨l, hl, rfl⟩ := List.mem_map.1 he
  unfold reasonP at hl
  rcases List.mem_append.1 hl with h | h
  · exact hr l h
  · refine lits_right m.vars (vars_okP m hm) (vars_bounds m hm) _ (fun i hi => ?_) l h
    unfold leastP at hi
    exact gone_whole _ _ _ (spare_sub _ _ _ _ _ hi)
/-- A REASON HOLDS WHERE THE CONSTRAINT DOES. -/
theorem reason_holds (m : Mod) (hm : checkM m = 0) (j : Nat) (c : MCon) (hc : m.cons[j]? = some c) (s : Sto) (any : Cla) (hany : ∀ l ∈ any, litE m.vars l = 0) (hs : saysP m.vars (pointsP m.vars c) (heldP m.vars any ||| goneP m.vars s) = true)
    (vals : List Int) (hv : hasS (beginS m.vars) vals = true) (hh : holdsC c vals = true) : claB (reasonP m.vars c s any) vals = true := by
  have hok := vars_okP m hm
  have hmb := maybe_of m.vars vals hv
  obtain ⟨k1, k2⟩ := scope_in m hm j c hc
  have h1 : saysP m.vars (pointsP m.vars c) (heldP m.vars any ||| leastP m.vars c s any) = true := by
    unfold leastP
    exact spare_says (fun g => saysP m.vars (pointsP m.vars c) (heldP m.vars any ||| g)) _ _ _ hs
  obtain ⟨v, hvl, hb⟩ := says_hits m.vars hok c k1 k2 _ h1 vals hmb hh
  unfold reasonP claB
  rw [List.any_append, Bool.or_eq_true]
  rw [Nat.testBit_or, Bool.or_eq_true] at hb
  rcases hb with hb | hb
  · left
    exact (held_hits m.vars hok vals hmb any (fun l hl => by
      have := hany l hl
      unfold litE at this
      by_cases h0 : l.var < 0 ∨ (m.vars.length : Int) ≤ l.var
      · rw [if_pos h0] at this; cases this
      · omega)).1 ⟨v, hvl, hb⟩
  · right
    exact lits_hold m.vars hok _ vals hmb ⟨v, hvl, hb⟩
end Go.Proofs.YtijohkhpigjbkadGreatDoor
/-
  PLAIN: how long the rows of a right store are. MEMORY: a store that is being built, row by row.
-/
namespace Go.Proofs.YtijohkhpigjbkadGreatDoor
open Go.RowKit

theorem rises_len (l : List Int) : ∀ (lo hi : Int), l.Pairwise (· < ·) → (∀ n ∈ l, lo ≤ n ∧ n ≤ hi) → (l.length : Int) ≤ max 0 (hi - lo + 1) := by
  induction l with
  | nil => intro lo hi _ _; simp; omega
  | cons a r ih =>
    intro lo hi hp hb
    have h1 := ih (a + 1) hi (List.pairwise_cons.1 hp).2 (fun n hn => by
      have := (List.pairwise_cons.1 hp).1 n hn
      have := hb n (List.mem_cons_of_mem _ hn)
      omega)
    have h2 := hb a (List.mem_cons_self ..)
    rw [List.length_cons]
    push_cast
    omega
theorem row_short (m : Mod) (s : Sto) (hm : checkM m = 0) (hs : checkV m.vars s = 0) (i : Nat) (r : List Int) (hr : s[i]? = some r) : r.length ≤ 6 := by
  obtain ⟨h1, h2, h3⟩ := (checkV_ok _ _).1 hs
  have hi : i < s.length := (List.getElem?_eq_some_iff.1 hr).1
  obtain ⟨v, hv⟩ : ∃ v, m.vars[i]? = some v := ⟨m.vars[i]'(by omega), by simp⟩
  have hvo := var_ok m hm i v hv
  have hin := (all_zip _ _ _).1 h2 i v r hv hr
  have hri := List.all_eq_true.1 h3 r (List.mem_of_getElem? hr)
  have := rises_len r v.lo v.hi ((rises_pair r).1 hri) (fun n hn => by
    have := List.all_eq_true.1 hin n hn
    simpa [insideB] using this)
  omega

/-- Numbers of one's own, as a list. -/
theorem own_ilist {w : World} {base : Nat} {v : Value} {r : List Int} (h : w.ownsRow base 3 1 v r.length (r.map (Value.int .i64))) : IArg w v r := by
  rcases h.2 with ⟨rfl, hn⟩ | ⟨g, cap, cur, rfl, hg, hh, hc1, hc2, _, _⟩
  · have : r = [] := List.eq_nil_of_length_eq_zero hn
    subst this
    exact ⟨none, 0, rfl, ⟨Nat.le_refl _, Nat.zero_le _⟩, fun i z hz => by simp at hz⟩
  · refine ⟨_, cap, rfl, ⟨hc1, hc2⟩, fun i z hz => ⟨g, 0, rfl, (Array.getElem?_eq_some_iff.1 hh).1, ?_⟩⟩
    have hi : i < r.length := (List.getElem?_eq_some_iff.1 hz).1
    rw [Nat.zero_add, h.cellAt i (by omega), List.getElem?_map, hz]; rfl

theorem own_mono {w : World} {base base' : Nat} {e : TypeId} {size : Nat} {v : Value} {n : Nat} {xs : List Value} (h : w.ownsRow base e size v n xs) (hb : base' ≤ base) : w.ownsRow base' e size v n xs := by
  refine ⟨h.1, ?_⟩
  rcases h.2 with hn | ⟨g, cap, cur, hv, hg, r⟩
  · exact .inl hn
  · exact .inr ⟨g, cap, cur, hv, Nat.le_trans hb hg, r⟩
/-- What is owned stays so where its block does. -/
theorem own_at {w w' : World} {base : Nat} {e : TypeId} {size : Nat} {v : Value} {n : Nat} {xs : List Value} (h : w.ownsRow base e size v n xs) (hk : ∀ g, v.ownBlock = some g → w'.heap[g]? = w.heap[g]?) : w'.ownsRow base e size v n xs := by
  refine ⟨h.1, ?_⟩
  rcases h.2 with hn | ⟨g, cap, cur, hv, hg, hh, r⟩
  · exact .inl hn
  · exact .inr ⟨g, cap, cur, hv, hg, by rw [hk g (by rw [hv]; rfl)]; exact hh, r⟩

/-- A store that is being built: its first k rows are made. -/
def SRows (w : World) (base B n : Nat) (cells : List Value) (M : Sto) (k : Nat) : Prop :=
  w.ownsRow base 44 1 (.slice (some ⟨B, 0, none⟩) n n) n cells ∧
  (∀ i r, i < k → M[i]? = some r → ∃ x, cells[i]? = some x ∧ w.ownsRow (B + 1) 3 1 x r.length (r.map (Value.int .i64))) ∧
  (∀ i, k ≤ i → i < n → cells[i]? = some (.slice none 0 0))
/-- .. and of row k so much as acc is made, above block K. -/
def SRowsIn (w : World) (base B n : Nat) (cells : List Value) (M : Sto) (k K : Nat) (acc : List Int) : Prop :=
  w.ownsRow base 44 1 (.slice (some ⟨B, 0, none⟩) n n) n cells ∧
  (∀ i r, i < k → M[i]? = some r → ∃ x, cells[i]? = some x ∧ w.ownsRow (B + 1) 3 1 x r.length (r.map (Value.int .i64)) ∧ ∀ g, x.ownBlock = some g → g < K) ∧
  (∃ x, cells[k]? = some x ∧ w.ownsRow K 3 1 x acc.length (acc.map (Value.int .i64))) ∧
  (∀ i, k < i → i < n → cells[i]? = some (.slice none 0 0)) ∧ B < K ∧ K ≤ w.heap.size ∧ k < n

theorem SRows.into {w : World} {base B n : Nat} {cells : List Value} {M : Sto} {k : Nat} (h : SRows w base B n cells M k) (hk : k < n) : SRowsIn w base B n cells M k w.heap.size [] := by
  obtain ⟨h1, h2, h3⟩ := h
  refine ⟨h1, fun i r hi hr => ?_, ⟨_, h3 k (Nat.le_refl _) hk, World.ownsRow_nil _ _ _ _⟩, fun i hi hn => h3 i (by omega) hn, (h1.lt B rfl).2, Nat.le_refl _, hk⟩
  obtain ⟨x, hx, ho⟩ := h2 i r hi hr
  exact ⟨x, hx, ho, fun g hg => (ho.lt g hg).2⟩
theorem SRowsIn.done {w : World} {base B n : Nat} {cells : List Value} {M : Sto} {k K : Nat} {acc : List Int} (h : SRowsIn w base B n cells M k K acc) (hM : M[k]? = some acc) : SRows w base B n cells M (k + 1) := by
  obtain ⟨h1, h2, ⟨x, hx, ho⟩, h4, h5, _, _⟩ := h
  refine ⟨h1, fun i r hi hr => ?_, fun i hi hn => h4 i (by omega) hn⟩
  by_cases hik : i < k
  · obtain ⟨y, hy, hoy, _⟩ := h2 i r hik hr
    exact ⟨y, hy, hoy⟩
  · obtain rfl : i = k := by omega
    rw [hM] at hr; cases hr
    exact ⟨x, hx, own_mono ho (by omega)⟩
theorem SRowsIn.kept {w w' : World} {base B n : Nat} {cells : List Value} {M : Sto} {k K : Nat} {acc : List Int} (h : SRowsIn w base B n cells M k K acc) (hb : Below w.heap.size w w') : SRowsIn w' base B n cells M k K acc := by
  obtain ⟨h1, h2, ⟨x, hx, ho⟩, h4, h5, h6, h7⟩ := h
  refine ⟨own_below h1 hb, fun i r hi hr => ?_, ⟨x, hx, own_below ho hb⟩, h4, h5, Nat.le_trans h6 hb.size, h7⟩
  obtain ⟨y, hy, hoy, hg⟩ := h2 i r hi hr
  exact ⟨y, hy, own_below hoy hb, hg⟩
theorem SRows.kept {w w' : World} {base B n : Nat} {cells : List Value} {M : Sto} {k : Nat} (h : SRows w base B n cells M k) (hb : Below w.heap.size w w') : SRows w' base B n cells M k := by
  obtain ⟨h1, h2, h3⟩ := h
  refine ⟨own_below h1 hb, fun i r hi hr => ?_, h3⟩
  obtain ⟨y, hy, hoy⟩ := h2 i r hi hr
  exact ⟨y, hy, own_below hoy hb⟩
/-- One more number: 'w' is the world ahead of append, 'w3' the one behind it. -/
theorem SRowsIn.push {w w3 : World} {base B n : Nat} {cells : List Value} {M : Sto} {k K : Nat} {acc : List Int} {x v3 : Value} {z : Int} (h : SRowsIn w base B n cells M k K acc) (hx : cells[k]? = some x)
    (ho : w3.ownsRow K 3 1 v3 (acc ++ [z]).length ((acc ++ [z]).map (Value.int .i64))) (hg : w.grownBy w3 x.ownBlock) :
    SRowsIn (w3.setCell ⟨B, k, none⟩ v3) base B n (cells.set k v3) M k K (acc ++ [z]) := by
  obtain ⟨h1, h2, ⟨y, hy, hoy⟩, h4, h5, h6, h7⟩ := h
  rw [hx] at hy; cases hy
  have hxK : ∀ g, x.ownBlock = some g → K ≤ g := fun g hg => (hoy.lt g hg).1
  have hB : B < w.heap.size := (h1.lt B rfl).2
  have hne : some B ≠ x.ownBlock := fun h => by have := hxK B h.symm; omega
  have h13 : w3.ownsRow base 44 1 (.slice (some ⟨B, 0, none⟩) n n) n cells := h1.kept hg (Or.inr hne)
  have hlen : cells.length = n := by have := h1.1; omega
  refine ⟨(h13.stored k v3).1, fun i r hi hr => ?_, ⟨v3, by rw [List.getElem?_set_self (by omega)], ?_⟩, fun i hi hn => by rw [List.getElem?_set_ne (by omega)]; exact h4 i hi hn, h5, ?_, h7⟩
  · obtain ⟨y, hy, hoy2, hgy⟩ := h2 i r hi hr
    refine ⟨y, by rw [List.getElem?_set_ne (by omega)]; exact hy, ?_, hgy⟩
    have h23 : w3.ownsRow (B + 1) 3 1 y r.length (r.map (Value.int .i64)) := by
      refine hoy2.kept hg ?_
      cases hyb : y.ownBlock with
      | none => exact Or.inl rfl
      | some g =>
        refine Or.inr fun he => ?_
        have := hxK g he.symm
        have := hgy g hyb
        omega
    refine own_at h23 fun g hg2 => Below.heap_setCell _ _ _ _ ?_
    have := (hoy2.lt g hg2).1
    simp only; omega
  · refine own_at ho fun g hg2 => Below.heap_setCell _ _ _ _ ?_
    have := (ho.lt g hg2).1
    simp only; omega
  · have := hg.size; simp; omega
theorem SRows.rarg {w : World} {base B n : Nat} {cells : List Value} {M : Sto} (h : SRows w base B n cells M n) (hM : M.length = n) : RArg w (.slice (some ⟨B, 0, none⟩) n n) M := by
  obtain ⟨h1, h2, _⟩ := h
  have hB : B < w.heap.size := (h1.lt B rfl).2
  have hmx : n ≤ maxLen := by
    rcases h1.2 with ⟨h', _⟩ | ⟨g, cap, cur, h', _, _, hc1, hc2, _⟩
    · cases h'
    · exact Nat.le_trans hc1 hc2
  refine ⟨_, n, by rw [hM], ⟨by omega, hmx⟩, fun i r hr => ?_⟩
  have hi : i < n := by rw [← hM]; exact (List.getElem?_eq_some_iff.1 hr).1
  obtain ⟨x, hx, ho⟩ := h2 i r hi hr
  exact ⟨B, 0, x, rfl, hB, by rw [Nat.zero_add, h1.cellAt i (by omega)]; exact hx, own_ilist ho⟩
end Go.Proofs.YtijohkhpigjbkadGreatDoor
/-
  What was so in an old world.
-/
namespace Go.Proofs.YtijohkhpigjbkadGreatDoor
open Go.RowKit

/-- What was so in an old world, and is so still. -/
def Old (N : Nat) (w : World) (P : World → Prop) : Prop := ∃ w0 : World, w0.heap.size ≤ N ∧ P w0 ∧ Below w0.heap.size w0 w
theorem Old.below {N : Nat} {w w' : World} {P : World → Prop} (h : Old N w P) (hb : Below N w w') : Old N w' P := by
  obtain ⟨w0, h1, h2, h3⟩ := h
  exact ⟨w0, h1, h2, h3.trans (hb.mono h1)⟩
theorem bk_cell {w : World} {b : Nat} {cs : Array Value} {t : TypeId} (h : w.heap[b]? = some (.cells cs t)) (i : Nat) (v : Value) (hv : cs[i]? = some v) : w.cell? ⟨b, i, none⟩ = some v := by
  rw [Lib.cell_of_heap h]; exact hv
theorem bounds_set (vals : List Int) (k : Nat) (x : Int) (h : ∀ y ∈ vals, -50 ≤ y ∧ y ≤ 50) (hx : -50 ≤ x ∧ x ≤ 50) : ∀ y ∈ vals.set k x, -50 ≤ y ∧ y ≤ 50 := by
  intro y hy
  rcases List.mem_or_eq_of_mem_set hy with h1 | h1
  · exact h y h1
  · rw [h1]; exact hx
end Go.Proofs.YtijohkhpigjbkadGreatDoor
/-
  A constraint's points: how they lie in memory while they are sought.
-/
namespace Go.Proofs.YtijohkhpigjbkadGreatDoor
open Go.RowKit

def ptr (b : Nat) : Value := .pointer (some ⟨b, 0, none⟩)
def ptsCaps (N bs bm bc : Nat) : Array Value := #[.pointer (some ⟨bs, 0, none⟩), .pointer (some ⟨bm, 0, none⟩), .pointer (some ⟨bc, 0, none⟩), .pointer (some ⟨N + 1, 0, none⟩), .pointer (some ⟨N + 2, 0, none⟩), .pointer (some ⟨N + 3, 0, none⟩)]
def u64s (l : List Nat) : List Value := l.map fun (z : Nat) => Value.int .u64 (z : Int)
/-- What the search for points has in memory. -/
def PtsS (N bs bm bc : Nat) (m : Mod) (con : Nat) (vs cs sv : Value) (scope vals : List Int) (out : List Nat) (w : World) : Prop :=
  N + 4 ≤ w.heap.size ∧
  Old N w (fun u => MArg u vs cs m ∧ IArg u sv scope ∧ u.cell? ⟨bs, 0, none⟩ = some sv ∧ u.cell? ⟨bm, 0, none⟩ = some vs ∧ u.cell? ⟨bm, 1, none⟩ = some cs ∧ u.cell? ⟨bc, 0, none⟩ = some (.int .i64 con)) ∧
  w.ownsRow N 3 1 (.slice (some ⟨N, 0, none⟩) vals.length vals.length) vals.length (vals.map (Value.int .i64)) ∧
  w.cell? ⟨N + 1, 0, none⟩ = some (.slice (some ⟨N, 0, none⟩) vals.length vals.length) ∧
  w.cell? ⟨N + 3, 0, none⟩ = some (.func (.func 60) #[] (ptsCaps N bs bm bc)) ∧
  ∃ ov, w.ownsRow N 55 1 (.slice (some ⟨N + 2, 0, none⟩) 1 1) 1 [ov] ∧ w.ownsRow (N + 4) 58 1 ov out.length (u64s out)

section
variable {N bs bm bc con : Nat} {m : Mod} {vs cs sv : Value} {scope vals : List Int} {out : List Nat} {w w' : World}
theorem PtsS.below (h : PtsS N bs bm bc m con vs cs sv scope vals out w) (hb : Below w.heap.size w w') : PtsS N bs bm bc m con vs cs sv scope vals out w' := by
  obtain ⟨h1, h2, h3, h4, h5, ov, h6, h7⟩ := h
  exact ⟨Nat.le_trans h1 hb.size, h2.below (hb.mono (by omega)), own_below h3 hb, (hb.cell (p := ⟨N + 1, 0, none⟩) (by simp only; omega)).trans h4, (hb.cell (p := ⟨N + 3, 0, none⟩) (by simp only; omega)).trans h5, ov, own_below h6 hb, own_below h7 hb⟩
theorem PtsS.old (h : PtsS N bs bm bc m con vs cs sv scope vals out w) : MArg w vs cs m ∧ IArg w sv scope ∧ w.cell? ⟨bs, 0, none⟩ = some sv ∧ w.cell? ⟨bm, 0, none⟩ = some vs ∧ w.cell? ⟨bm, 1, none⟩ = some cs ∧ w.cell? ⟨bc, 0, none⟩ = some (.int .i64 con) ∧
    (bs < w.heap.size ∧ bm < w.heap.size ∧ bc < w.heap.size) := by
  obtain ⟨_, ⟨w0, g0, ⟨g1, g2, g3, g4, g5, g6⟩, gb⟩, _⟩ := h
  have l1 := World.block_lt_of_cell? w0 _ g3
  have l2 := World.block_lt_of_cell? w0 _ g4
  have l3 := World.block_lt_of_cell? w0 _ g6
  have hs := gb.size
  simp only at l1 l2 l3
  exact ⟨MArg.below gb g1, IArg.below gb g2, (gb.cell (p := ⟨bs, 0, none⟩) l1).trans g3, (gb.cell (p := ⟨bm, 0, none⟩) l2).trans g4, (gb.cell (p := ⟨bm, 1, none⟩) l2).trans g5, (gb.cell (p := ⟨bc, 0, none⟩) l3).trans g6, by omega, by omega, by omega⟩
theorem PtsS.vals_arg (h : PtsS N bs bm bc m con vs cs sv scope vals out w) : IArg w (.slice (some ⟨N, 0, none⟩) vals.length vals.length) vals := own_ints h.2.2.1
theorem PtsS.set (h : PtsS N bs bm bc m con vs cs sv scope vals out w) (k : Nat) (x : Int) :
    PtsS N bs bm bc m con vs cs sv scope (vals.set k x) out (w.setCell ⟨N, k, none⟩ (.int .i64 x)) ∧ Below N w (w.setCell ⟨N, k, none⟩ (.int .i64 x)) := by
  obtain ⟨h1, h2, h3, h4, h5, ov, h6, h7⟩ := h
  have hb : Below N w (w.setCell ⟨N, k, none⟩ (.int .i64 x)) := (Below.refl _ _).setCell (show N ≤ N from Nat.le_refl N) _
  have hk : ∀ g, g ≠ N → (w.setCell ⟨N, k, none⟩ (.int .i64 x)).heap[g]? = w.heap[g]? := fun g hg => Below.heap_setCell _ _ _ _ (fun h => hg h)
  refine ⟨⟨by have := hb.size; omega, h2.below hb, ?_, ?_, (World.cell?_of_block (hk _ (by simp only; omega))).trans h5, ov, own_at h6 fun g hg => ?_, own_at h7 fun g hg => ?_⟩, hb⟩
  · rw [List.length_set, List.map_set]
    exact (h3.stored k (.int .i64 x)).1
  · rw [List.length_set]
    exact (World.cell?_of_block (hk _ (by simp only; omega))).trans h4
  · have hgn : g = N + 2 := by injection hg with e; exact e.symm
    exact hk g (by omega)
  · have := (h7.lt g hg).1
    exact hk _ (by omega)
/-- One more point: a new row, and its box is set. -/
theorem PtsS.put {z : Nat} {v3 ov : Value} {w2 : World} (h : PtsS N bs bm bc m con vs cs sv scope vals out w) (ho : w.ownsRow N 55 1 (.slice (some ⟨N + 2, 0, none⟩) 1 1) 1 [ov]) (hr : w.ownsRow (N + 4) 58 1 ov out.length (u64s out))
    (hw : w2.ownsRow (N + 4) 58 1 v3 (out ++ [z]).length (u64s (out ++ [z]))) (hg : w.grownBy w2 ov.ownBlock) :
    PtsS N bs bm bc m con vs cs sv scope vals (out ++ [z]) (w2.setCell ⟨N + 2, 0, none⟩ v3) ∧ Below N w (w2.setCell ⟨N + 2, 0, none⟩ v3) := by
  obtain ⟨h1, h2, h3, h4, h5, _⟩ := h
  have hov : ∀ g, ov.ownBlock = some g → N + 4 ≤ g := fun g hg => (hr.lt g hg).1
  have hb1 : Below N w w2 := (Below.refl _ _).grown hg (by omega) (fun k hk => by have := hov k hk; omega)
  have hb : Below N w (w2.setCell ⟨N + 2, 0, none⟩ v3) := hb1.setCell (by simp only; omega) _
  have hk : ∀ g, g < N + 4 → g ≠ N + 2 → (w2.setCell ⟨N + 2, 0, none⟩ v3).heap[g]? = w.heap[g]? := fun g hgl hgn =>
    (Below.heap_setCell _ _ _ _ (fun h => hgn h)).trans (hg.block g (by omega) (fun he => by have := hov g he.symm; omega))
  refine ⟨⟨by have := hg.size; simp; omega, h2.below hb, own_at h3 fun g hgg => ?_, (World.cell?_of_block (hk _ (by simp only; omega) (by simp only; omega))).trans h4, (World.cell?_of_block (hk _ (by simp only; omega) (by simp only; omega))).trans h5, v3, ?_, own_at hw fun g hgg => ?_⟩, hb⟩
  · have hgn : g = N := by injection hgg with e; exact e.symm
    exact hk g (by omega) (by omega)
  · have h6 : w2.ownsRow N 55 1 (.slice (some ⟨N + 2, 0, none⟩) 1 1) 1 [ov] := ho.kept hg (Or.inr fun he => by have := hov (N + 2) he.symm; omega)
    exact (h6.stored 0 v3).1
  · have := (hw.lt g hgg).1
    exact Below.heap_setCell _ _ _ _ (fun h => by simp only at h; omega)
end

theorem points_same (vs : List MVar) (c : MCon) : ∀ (r a b : List Int) (q : Nat), Agree r a b → pointsN vs c r a q = pointsN vs c r b q
  | [], a, b, q, h => by
    unfold pointsN
    rw [show a = b from List.ext_getElem? fun w => h.2 w (fun v hv => by cases hv)]
  | v :: r, a, b, q, h => by
    unfold pointsN
    congr 1
    funext x
    exact points_same vs c r _ _ _ (h.set x)
theorem points_count (vs : List MVar) (hv : VarsOk vs) (c : MCon) : ∀ (r vals : List Int) (q : Nat), (pointsN vs c r vals q).length ≤ 6 ^ r.length
  | [], vals, q => by
    unfold pointsN
    split <;> simp
  | v :: r, vals, q => by
    unfold pointsN
    have hs : (spanR (varAt vs v.toNat).lo (varAt vs v.toNat).hi).length ≤ 6 := by
      have := hv.2 v.toNat
      unfold sizeV at this
      unfold spanR
      simp only [List.length_map, List.length_range]
      exact this
    have key : ∀ l : List Int, (l.flatMap fun x => pointsN vs c r (vals.set v.toNat x) (q ||| 2 ^ (6 * v.toNat + (x - (varAt vs v.toNat).lo).toNat))).length ≤ l.length * 6 ^ r.length := by
      intro l
      induction l with
      | nil => simp
      | cons a l ih =>
        rw [List.flatMap_cons, List.length_append, List.length_cons]
        have := points_count vs hv c r (vals.set v.toNat a) (q ||| 2 ^ (6 * v.toNat + (a - (varAt vs v.toNat).lo).toNat))
        rw [Nat.add_mul]
        omega
    have h1 := key (spanR (varAt vs v.toNat).lo (varAt vs v.toNat).hi)
    have h2 : (spanR (varAt vs v.toNat).lo (varAt vs v.toNat).hi).length * 6 ^ r.length ≤ 6 * 6 ^ r.length := Nat.mul_le_mul_right _ hs
    rw [List.length_cons, Nat.pow_succ]
    omega
/-- The points of the first values of a variable. -/
def ptsN (vs : List MVar) (c : MCon) (v : Nat) (r vals : List Int) (a : Nat) (lo : Int) (j : Nat) : List Nat :=
  (List.range j).flatMap fun (i : Nat) => pointsN vs c r (vals.set v (lo + (i : Int))) (a ||| 2 ^ (6 * v + i))
theorem ptsN_next (vs : List MVar) (c : MCon) (v : Nat) (r vals : List Int) (a : Nat) (lo : Int) (j : Nat) : ptsN vs c v r vals a lo (j + 1) = ptsN vs c v r vals a lo j ++ pointsN vs c r (vals.set v (lo + (j : Int))) (a ||| 2 ^ (6 * v + j)) := by
  unfold ptsN; rw [List.range_succ, List.flatMap_append]; simp
theorem ptsN_all (vs : List MVar) (c : MCon) (v : Nat) (r vals : List Int) (a : Nat) : ptsN vs c v r vals a (varAt vs v).lo (sizeV (varAt vs v)) = pointsN vs c ((v : Int) :: r) vals a := by
  conv => rhs; unfold pointsN
  unfold ptsN spanR sizeV
  rw [List.flatMap_map, Int.toNat_natCast]
  congr 1
  funext i
  rw [show ((varAt vs v).lo + (i : Int) - (varAt vs v).lo).toNat = i by omega]
theorem ptsN_count (vs : List MVar) (hv : VarsOk vs) (c : MCon) (v : Nat) (r vals : List Int) (a : Nat) (lo : Int) : ∀ j, (ptsN vs c v r vals a lo j).length ≤ j * 6 ^ r.length
  | 0 => by simp [ptsN]
  | j + 1 => by
    rw [ptsN_next, List.length_append, Nat.add_mul]
    have h1 := ptsN_count vs hv c v r vals a lo j
    have h2 := points_count vs hv c r (vals.set v (lo + (j : Int))) (a ||| 2 ^ (6 * v + j))
    omega
theorem points_lt (vs : List MVar) (hv : VarsAll vs) (c : MCon) : ∀ (r vals : List Int) (a : Nat), (∀ v ∈ r, 0 ≤ v ∧ v < (vs.length : Int)) → a < 2 ^ 36 → ∀ p ∈ pointsN vs c r vals a, p < 2 ^ 36
  | [], vals, a, _, ha, p, hp => by
    unfold pointsN at hp
    split at hp
    · rw [List.mem_singleton.1 hp]; exact ha
    · cases hp
  | v :: r, vals, a, hr, ha, p, hp => by
    unfold pointsN at hp
    obtain ⟨x, hx, hp⟩ := List.mem_flatMap.1 hp
    obtain ⟨h1, h2⟩ := (mem_span_iff _ _ _).1 hx
    have hvr := hr v (List.mem_cons_self ..)
    refine points_lt vs hv c r _ _ (fun y hy => hr y (List.mem_cons_of_mem _ hy)) (or_lt36 ha (pow_lt36 vs hv v.toNat _ (by omega) ?_)) p hp
    unfold sizeV
    omega
end Go.Proofs.YtijohkhpigjbkadGreatDoor
/-
  WALK: package sift: Those, with whatever closure.
-/
namespace Go.Proofs.YtijohkhpigjbkadGreatDoor
open Go.RowKit

theorem Tryz.infoInts : (Tryz.prog.info? 44).map (fun i => (i.zero, i.size, i.bytes)) = some (some (.slice none 0 0), 1, 24) := by kernel_rfl
theorem Tryz.infoInt : (Tryz.prog.info? 3).map (fun i => (i.zero, i.size, i.bytes)) = some (some (.int .i64 0), 1, 8) := by kernel_rfl
theorem Tryz.underStore : Tryz.prog.underlying 75 = some (.slice 44) := by kernel_rfl

/-- A store is made: all of its rows are nil. -/
theorem make_store (n : Nat) (hn : n ≤ 6) (w : World) : ∃ w', Sem.run Tryz.prog (Instr.makeSlice 75 (.int .i64 (n : Int)) (.int .i64 (n : Int))) w = .ok (.slice (some ⟨w.heap.size, 0, none⟩) n n) w' ∧
    (∀ M, SRows w' w.heap.size w.heap.size n (List.replicate n (.slice none 0 0)) M 0) ∧ Below w.heap.size w w' := by
  obtain ⟨i0, hi, hz0, hz1, hz2⟩ := info_parts Tryz.infoInts
  obtain ⟨w', hrun, hown, hg⟩ := run_makeSlice_full w w.heap.size 75 44 i0 (.slice none 0 0) 1 Tryz.underStore hi hz0 hz1 .i64 .i64 n (by omega) (by rw [hz2]; omega) (by unfold maxLen; omega) (Nat.le_refl _)
  refine ⟨w', hrun, fun M => ⟨?_, fun i r hi => absurd hi (Nat.not_lt_zero _), fun i _ hn => by simp [hn]⟩, (Below.refl _ _).grown hg (Nat.le_refl _) (fun k h => by cases h)⟩
  have : (Value.slice none 0 0).cells = #[.slice none 0 0] := rfl
  rw [this, Nat.mul_one, toList_madeCells_one] at hown
  exact hown

theorem one_laid (w : World) (z : Int) : ∀ (j : Nat) (u : Value), [Value.int .i64 z][j]? = some u → (w.alloc (.cells #[.int .i64 z] 3)).cell? ((⟨w.heap.size, 0, none⟩ : Addr).add j) = some u := by
  intro j u hj
  match j, hj with
  | 0, hj => simp at hj; subst hj; simp [Addr.add]

/-- A closure over a variable and a value that only reads what is old. -/
def ClosS (F : Nat) (caps : Array Value) (s : Sto) (p : Nat → Int → Bool) (w : World) : Prop :=
  (∀ (args : Array Value) (w' : World), Sem.run Tryz.prog (callFunc F args) w' = .ok (.enter F args) w') ∧
  ∀ (k : Nat) (r : List Int) (z : Int) (w' : World), s[k]? = some r → z ∈ r → Below w.heap.size w w' → Calls Tryz.prog F (#[.int .i64 k, .int .i64 z] ++ caps) w' fun e w'' => e = .returned (.bool (p k z)) ∧ Below w'.heap.size w' w''
theorem filt_hit (q : Int → Bool) (r : List Int) (j : Nat) (z : Int) (hz : r[j]? = some z) (h : q z = true) : (r.take (j + 1)).filter q = (r.take j).filter q ++ [z] := by
  rw [List.take_add_one, hz, List.filter_append]; simp [h]
theorem filt_miss (q : Int → Bool) (r : List Int) (j : Nat) (z : Int) (hz : r[j]? = some z) (h : q z = false) : (r.take (j + 1)).filter q = (r.take j).filter q := by
  rw [List.take_add_one, hz, List.filter_append]; simp [h]
theorem filt_short (q : Int → Bool) (r : List Int) (j : Nat) : ((r.take j).filter q).length ≤ r.length :=
  Nat.le_trans (List.length_filter_le _ _) (by rw [List.length_take]; omega)

set_option maxHeartbeats 1600000 in
set_option maxRecDepth 100000 in
theorem sift_any (F : Nat) (caps : Array Value) (s : Sto) (p : Nat → Int → Bool) (v : Value) (w : World) (hv : RArg w v s) (hF : ClosS F caps s p w) (hn : s.length ≤ 6) (hr6 : ∀ r ∈ s, r.length ≤ 6) :
    Calls Tryz.prog 87 #[v, .func (.func F) #[] caps] w fun e w' => ∃ x, e = .returned x ∧ RArg w' x (siftS s p) ∧ Below w.heap.size w w' := by
  obtain ⟨a3, c3, rfl, hl3, hr3⟩ := hv
  have HV3 : Hid (∀ (i : Nat) (r : List Int), s[i]? = some r → ∃ b off x, a3 = some ⟨b, off, none⟩ ∧ b < w.heap.size ∧ w.cell? ⟨b, off + i, none⟩ = some x ∧ IArg w x r) := hr3
  have HF : Hid (ClosS F caps s p w) := hF
  have HR6 : Hid (∀ r ∈ s, r.length ≤ 6) := hr6
  unfold maxLen at hl3
  obtain ⟨hl31, hl3⟩ := hl3
  obtain ⟨wm, hrun, hrows, hbm⟩ := make_store s.length hn w
  have HROWS : Hid (∀ M, SRows wm w.heap.size w.heap.size s.length (List.replicate s.length (.slice none 0 0)) M 0) := hrows
  have HBM : Hid (Below w.heap.size w wm) := hbm
  obtain ⟨B, hB⟩ : ∃ B, B = w.heap.size := ⟨_, rfl⟩
  rw [← hB] at hrun HROWS
  have hBw : w.heap.size ≤ B := by omega
  obtain ⟨i0, hi, hz0, hz1, hz2⟩ := info_parts Tryz.infoInt
  clear hr3 hF hr6 hrows hbm hB
  go_enter Tryz.func87, Tryz.ntmps87
  go_wp2_with fail
  clear hrun
  go_loopw [15] (fun i wr => ∃ (k : Nat) (cells : List Value), k ≤ s.length ∧ i = .int .i64 k ∧ SRows wr B B s.length cells (siftS s p) k ∧ Below w.heap.size w wr) (fun i _ => s.length - (intOf i).toNat)
  case atStart => exact ⟨0, _, by omega, rfl, HROWS.out _, HBM.out⟩
  case round =>
    obtain ⟨k, cells, hk, rfl, hrow, hbw⟩ := hrel
    have HROW : Hid (SRows wr B B s.length cells (siftS s p) k) := hrow
    have HBW : Hid (Below w.heap.size w wr) := hbw
    clear hrow hbw
    by_cases hlt : k < s.length
    · obtain ⟨r, hr⟩ : ∃ r, s[k]? = some r := ⟨s[k], by simp [hlt]⟩
      have HM : Hid ((siftS s p)[k]? = some (r.filter (p k))) := siftS_get s p k r hr
      have hr6 : r.length ≤ 6 := HR6.out r (List.mem_of_getElem? hr)
      have HR : Hid (s[k]? = some r) := hr
      obtain ⟨b, off, x, hax, hb, hc0, hix⟩ := HV3.out k r hr
      subst hax
      have hc := (HBW.out.cell (p := ⟨b, off + k, none⟩) hb).trans hc0
      obtain ⟨a5, c5, rfl, hm5, hr5⟩ := hix
      have HR5 : Hid (∀ (i : Nat) (z : Int), r[i]? = some z → ∃ b off, a5 = some ⟨b, off, none⟩ ∧ b < w.heap.size ∧ w.cell? ⟨b, off + i, none⟩ = some (.int .i64 z)) := hr5
      unfold maxLen at hm5
      obtain ⟨hm51, hm5⟩ := hm5
      obtain ⟨K, HIN⟩ : ∃ K, Hid (SRowsIn wr B B s.length cells (siftS s p) k K []) := ⟨_, HROW.out.into hlt⟩
      clear hr hc0 hr5 hb
      obtain ⟨wo, rfl⟩ : ∃ wo : World, wo = wr := ⟨_, rfl⟩
      go_wp2_with fail
      clear hc
      go_loopw [22] (fun i wr => ∃ (j : Nat) (cells : List Value), j ≤ r.length ∧ i = .int .i64 j ∧ SRowsIn wr B B s.length cells (siftS s p) k K ((r.take j).filter (p k)) ∧ Below w.heap.size w wr) (fun i _ => r.length - (intOf i).toNat)
      case atStart => exact ⟨0, cells, by omega, rfl, HIN.out, HBW.out⟩
      case round =>
        obtain ⟨j, cells, hj, rfl, hin, hbw⟩ := hrel
        have HIN2 : Hid (SRowsIn wr B B s.length cells (siftS s p) k K ((r.take j).filter (p k))) := hin
        have HBW2 : Hid (Below w.heap.size w wr) := hbw
        clear hin hbw
        by_cases hlj : j < r.length
        · obtain ⟨z, hz⟩ : ∃ z, r[j]? = some z := ⟨r[j], by simp [hlj]⟩
          obtain ⟨b5, off5, ha5, hb5, hc5⟩ := HR5.out j z hz
          have HZ : Hid (r[j]? = some z) := hz
          subst ha5
          have hc := (HBW2.out.cell (p := ⟨b5, off5 + j, none⟩) hb5).trans hc5
          clear hz hc5 hb5
          cases hq : p k z
          · have HN : Hid ((r.take (j + 1)).filter (p k) = (r.take j).filter (p k)) := filt_miss (p k) r j z HZ.out hq
            go_wp2_with fail
            rw [HF.out.1, Oper.upon_enter]
            refine (HF.out.2 k r z _ HR.out (List.mem_of_getElem? HZ.out) HBW2.out).mono ?_
            rintro e w1 ⟨rfl, hb1⟩
            rw [hq]
            have HIN3 := HIN2.out.kept hb1
            have HB3 : Hid (Below w.heap.size w w1) := HBW2.out.trans (hb1.mono HBW2.out.size)
            clear hq hb1
            go_wp2
            go_roundw
            case rel => exact ⟨j + 1, cells, by omega, by go_num, by rw [HN.out]; exact HIN3, HB3.out⟩
            case measure => simp [intOf]; omega
          · have HN : Hid ((r.take (j + 1)).filter (p k) = (r.take j).filter (p k) ++ [z]) := filt_hit (p k) r j z HZ.out hq
            obtain ⟨acc, hacc⟩ : ∃ acc, (r.take j).filter (p k) = acc := ⟨_, rfl⟩
            have hal : acc.length ≤ 6 := by rw [← hacc]; exact Nat.le_trans (filt_short (p k) r j) hr6
            rw [hacc] at HN HIN2
            clear hacc
            go_wp2_with fail
            rw [HF.out.1, Oper.upon_enter]
            refine (HF.out.2 k r z _ HR.out (List.mem_of_getElem? HZ.out) HBW2.out).mono ?_
            rintro e w1 ⟨rfl, hb1⟩
            rw [hq]
            have HIN3 : Hid (SRowsIn w1 B B s.length cells (siftS s p) k K acc) := HIN2.out.kept hb1
            have HB3 : Hid (Below w.heap.size w w1) := HBW2.out.trans (hb1.mono HBW2.out.size)
            clear hq hb1 hc HIN2 HBW2
            obtain ⟨htop, _, ⟨x, hx, hox⟩, _, hBK, hKw, _⟩ := HIN3.out
            obtain ⟨ax, cx, rfl⟩ := own_form hox
            have HX : Hid (cells[k]? = some (.slice ax acc.length cx)) := hx
            have hcx : w1.cell? ⟨B, k, none⟩ = some (.slice ax acc.length cx) := by rw [htop.cellAt k (by omega)]; exact hx
            have hlB : B < w1.heap.size := by omega
            clear hx
            go_wp2_with (at_builtin; refine wpList_append_own _ rfl _ _ 44 rfl K 3 i0 (.int .i64 0) 1 8 Tryz.underlying44 hi hz0 hz1 hz2 rfl (by decide) _ _ _ rfl (hox.alloc _) ⟨w1.heap.size, 0, none⟩ 1 1 [.int .i64 z] rfl rfl ?c1 ?c2 ?c3 ?c4 ?c5 ?_)
            case c1 => exact one_laid w1 z
            case c2 => intro u hu; rcases List.mem_singleton.1 hu with rfl; rfl
            case c3 => unfold maxLen; omega
            case c4 => omega
            case c5 => simp; omega
            intro v3 w3 hown3 hgrow _
            have hown4 : w3.ownsRow K 3 1 v3 (acc ++ [z]).length ((acc ++ [z]).map (Value.int .i64)) := by
              rw [List.length_append, List.map_append]; exact hown3
            have HPUSH : Hid (SRowsIn (w3.setCell ⟨B, k, none⟩ v3) B B s.length (cells.set k v3) (siftS s p) k K (acc ++ [z])) := (HIN3.out.kept (below_alloc _ _)).push HX.out hown4 hgrow
            have HB4 : Hid (Below w.heap.size w (w3.setCell ⟨B, k, none⟩ v3)) :=
              ((HB3.out.alloc HB3.out.size _).grown hgrow (by have := HB3.out.size; simp; omega) (fun g h => by have := (hox.lt g h).1; omega)).setCell (by simp only; omega) _
            have ht3 : w3.ownsRow B 44 1 (.slice (some ⟨B, 0, none⟩) s.length s.length) s.length cells := (htop.alloc _).kept hgrow (Or.inr (fun h => by have := (hox.lt B h.symm).1; omega))
            have hcB : w3.cell? ⟨B, k, none⟩ = some (.slice ax acc.length cx) := by rw [ht3.cellAt k (by omega)]; exact HX.out
            have hfB : w3.frozen? ⟨B, k, none⟩ = false := ht3.frozenAt k
            obtain ⟨av, cv, rfl⟩ := own_form hown4
            rw [show (acc ++ [z]).length = acc.length + 1 by simp] at HPUSH HB4
            clear hown3 hgrow hown4 hox hcx htop ht3
            go_wp2
            go_roundw
            case rel => exact ⟨j + 1, _, by omega, by go_num, by rw [HN.out]; exact HPUSH.out, HB4.out⟩
            case measure => simp [intOf]; omega
        · have HN : Hid ((r.take j).filter (p k) = r.filter (p k)) := by show _ = _; rw [List.take_of_length_le (by omega)]
          have HD : Hid (SRows wr B B s.length cells (siftS s p) (k + 1)) := HIN2.out.done (by rw [HN.out]; exact HM.out)
          go_wp2
          go_roundw
          case rel => exact ⟨k + 1, cells, by omega, by go_num, HD.out, HBW2.out⟩
          case measure => simp [intOf]; omega
    · have hks : k = s.length := by omega
      have HFN : Hid (RArg wr (.slice (some ⟨B, 0, none⟩) s.length s.length) (siftS s p)) := by
        have h := HROW.out
        rw [hks] at h
        exact h.rarg (siftS_len s p)
      clear hks
      go_wp2
      go_ret
      exact ⟨_, rfl, HFN.out, HBW.out⟩
end Go.Proofs.YtijohkhpigjbkadGreatDoor
/-
  WALK: package fence: the closure that goes through a constraint's values.
-/
namespace Go.Proofs.YtijohkhpigjbkadGreatDoor
open Go.RowKit

theorem Tryz.infoPart : (Tryz.prog.info? 58).map (fun i => (i.zero, i.size, i.bytes)) = some (some (.int .u64 0), 1, 8) := by kernel_rfl
theorem Tryz.underParts : Tryz.prog.underlying 55 = some (.slice 58) := by kernel_rfl
theorem part_laid (w : World) (z : Nat) : ∀ (j : Nat) (u : Value), [Value.int .u64 (z : Int)][j]? = some u → (w.alloc (.cells #[.int .u64 (z : Int)] 58)).cell? ((⟨w.heap.size, 0, none⟩ : Addr).add j) = some u := by
  intro j u hj
  match j, hj with
  | 0, hj => simp at hj; subst hj; simp [Addr.add]

set_option maxHeartbeats 3200000 in
set_option maxRecDepth 100000 in
theorem pts_end (N bs bm bc : Nat) (m : Mod) (con : Nat) (c : MCon) (vs cs sv : Value) (scope vals : List Int) (a : Nat) (out : List Nat) (w : World)
    (hc : m.cons[con]? = some c) (hce : conE vals.length c = 0) (hvb : ∀ x ∈ vals, -50 ≤ x ∧ x ≤ 50) (hbud : out.length ≤ 10000000)
    (hT : PtsS N bs bm bc m con vs cs sv scope vals out w) :
    Calls Tryz.prog 60 #[.int .i64 (scope.length : Int), .int .u64 (a : Int), .pointer (some ⟨bs, 0, none⟩), .pointer (some ⟨bm, 0, none⟩), .pointer (some ⟨bc, 0, none⟩), .pointer (some ⟨N + 1, 0, none⟩), .pointer (some ⟨N + 2, 0, none⟩), .pointer (some ⟨N + 3, 0, none⟩)] w fun e w' => e = .returned (.tuple #[]) ∧
      PtsS N bs bm bc m con vs cs sv scope vals (out ++ if holdsC c vals then [a] else []) w' ∧ Below N w w' := by
  obtain ⟨hma, hia, d0, d1, d2, d3, l0, l1, l2⟩ := hT.old
  obtain ⟨⟨av, cv, rfl, _, _⟩, ⟨ac, cc, hcs, hmc, hrc⟩⟩ := hma
  subst hcs
  obtain ⟨asv, csv, hsv, hms, _⟩ := hia
  subst hsv
  obtain ⟨bb, off, vv, vc, vr, vl, hax, hbb, c0, c1, c2, c3, c4, c5, hK⟩ := hrc con c hc
  subst hax
  have HK : Hid (∀ w' : World, Below w.heap.size w w' → KArg w' vv vc vr vl c) := fun w' h => KArg.below h hK
  have HVA : Hid (∀ w' : World, Below w.heap.size w w' → IArg w' (.slice (some ⟨N, 0, none⟩) vals.length vals.length) vals) := fun w' h => IArg.below h hT.vals_arg
  obtain ⟨⟨q1, r1, h1, _, _⟩, ⟨q2, r2, h2, _, _⟩, ⟨q3, r3, h3, _, _⟩, ⟨q4, r4, h4, _, _⟩⟩ := hK
  subst h1; subst h2; subst h3; subst h4
  have hcon : con < m.cons.length := (List.getElem?_eq_some_iff.1 hc).1
  have d4 := hT.2.2.2.1
  have l4 : N + 1 < w.heap.size := by have := hT.1; omega
  have HNL : Hid (N ≤ w.heap.size) := by have := hT.1; exact (by omega : N ≤ w.heap.size)
  have HT : Hid (PtsS N bs bm bc m con (.slice av m.vars.length cv) (.slice (some ⟨bb, off, none⟩) m.cons.length cc) (.slice asv scope.length csv) scope vals out w) := hT
  have HVB : Hid (∀ x ∈ vals, -50 ≤ x ∧ x ≤ 50) := hvb
  have HCE : Hid (conE vals.length c = 0) := hce
  unfold maxLen at hmc hms
  obtain ⟨hmc1, hmc⟩ := hmc
  obtain ⟨hms1, hms⟩ := hms
  obtain ⟨i0, hi, hz0, hz1, hz2⟩ := info_parts Tryz.infoPart
  obtain ⟨O, hO⟩ : ∃ O, (out ++ if holdsC c vals then [a] else []) = O := ⟨_, rfl⟩
  have HO : Hid ((out ++ if holdsC c vals then [a] else []) = O) := hO
  rw [hO]
  clear hT hvb hce hrc hc hO
  go_enter Tryz.func60, Tryz.ntmps60
  go_wp2_with fail
  go_region_held3 (fun w' => Below w.heap.size w w' ∧ w'.cell? ⟨bm, 1, none⟩ = some (.slice (some ⟨bb, off, none⟩) m.cons.length cc) ∧ w'.cell? ⟨bc, 0, none⟩ = some (.int .i64 con) ∧ w'.cell? ⟨bb, off + con * 6, none⟩ = some (.int .i64 c.kind) ∧ w'.cell? ⟨bb, off + con * 6 + 1, none⟩ = some (.slice q1 c.vars.length r1) ∧ w'.cell? ⟨bb, off + con * 6 + 2, none⟩ = some (.slice q2 c.consts.length r2) ∧ w'.cell? ⟨bb, off + con * 6 + 3, none⟩ = some (.int .i64 c.n) ∧ w'.cell? ⟨bb, off + con * 6 + 4, none⟩ = some (.slice q3 c.rows.length r3) ∧ w'.cell? ⟨bb, off + con * 6 + 5, none⟩ = some (.slice q4 c.lits.length r4) ∧ w'.cell? ⟨N + 1, 0, none⟩ = some (.slice (some ⟨N, 0, none⟩) vals.length vals.length))
      ((refine (fun (hB : Below w.heap.size w _) => ⟨hB, (hB.cell (p := ⟨bm, 1, none⟩) l1).trans d2, (hB.cell (p := ⟨bc, 0, none⟩) l2).trans d3, (hB.cell (p := ⟨bb, off + con * 6, none⟩) hbb).trans c0, (hB.cell (p := ⟨bb, off + con * 6 + 1, none⟩) hbb).trans c1, (hB.cell (p := ⟨bb, off + con * 6 + 2, none⟩) hbb).trans c2, (hB.cell (p := ⟨bb, off + con * 6 + 3, none⟩) hbb).trans c3, (hB.cell (p := ⟨bb, off + con * 6 + 4, none⟩) hbb).trans c4, (hB.cell (p := ⟨bb, off + con * 6 + 5, none⟩) hbb).trans c5, (hB.cell (p := ⟨N + 1, 0, none⟩) l4).trans d4⟩ : Below w.heap.size w _ → _) ?_; first | exact (Below.refl _ _).drew | exact hbq))
      (first
        | (go_at_call 50; refine (holds_any c vals _ _ _ _ _ _ (HK.out _ (Below.refl _ _).drew) (HVA.out _ (Below.refl _ _).drew) HCE.out HVB.out).mono ?_; rintro e w1 ⟨rfl, hbr⟩; have hbq : Below w.heap.size w w1 := ⟨hbr.os, hbr.tape, hbr.output, hbr.size, hbr.block⟩))
  have HT1 : Hid (PtsS N bs bm bc m con (.slice av m.vars.length cv) (.slice (some ⟨bb, off, none⟩) m.cons.length cc) (.slice asv scope.length csv) scope vals out w1) := HT.out.below hbq
  have hbN : Below N w w1 := hbq.mono HNL.out
  clear hbr hbq c0 c1 c2 c3 c4 c5 d0 d1 d2 d3 d4 l0 l1 l2 l4 hbb
  cases hq : holdsC c vals
  · have HE : Hid (out = O) := by show _ = _; have := HO.out; rw [hq] at this; simpa using this
    clear hq
    go_wp2
    (try simp only [Exit.inBlock, Exit.then])
    refine bodyPost_ret (results_none rfl _ _ _) rfl ?_
    refine ⟨rfl, ?_, hbN⟩
    rw [← HE.out]
    exact HT1.out
  · have HE : Hid (out ++ [a] = O) := by show _ = _; have := HO.out; rw [hq] at this; simpa using this
    clear hq
    obtain ⟨hsz, _, _, _, _, ov, ho, hr⟩ := HT1.out
    obtain ⟨ax, cx, rfl⟩ := own_form hr
    have hco : w1.cell? ⟨N + 2, 0, none⟩ = some (.slice ax out.length cx) := ho.cellAt 0 (by omega)
    have hlo : N + 2 < w1.heap.size := by omega
    go_wp2_with (at_builtin; refine wpList_append_own _ rfl _ _ 55 rfl (N + 4) 58 i0 (.int .u64 0) 1 8 Tryz.underlying55 hi hz0 hz1 hz2 rfl (by decide) _ _ _ rfl (hr.alloc _) ⟨w1.heap.size, 0, none⟩ 1 1 [.int .u64 (a : Int)] rfl rfl ?c1 ?c2 ?c3 ?c4 ?c5 ?_)
    case c1 => exact part_laid w1 a
    case c2 => intro u hu; rcases List.mem_singleton.1 hu with rfl; rfl
    case c3 => unfold maxLen; omega
    case c4 => omega
    case c5 => simp; omega
    intro v3 w3 hown3 hgrow _
    have hown4 : w3.ownsRow (N + 4) 58 1 v3 (out ++ [a]).length (u64s (out ++ [a])) := by
      unfold u64s
      rw [List.length_append, List.map_append]; exact hown3
    have HPUT := (HT1.out.below (below_alloc _ _)).put (ho.alloc _) (hr.alloc _) hown4 hgrow
    have HP : Hid (PtsS N bs bm bc m con (.slice av m.vars.length cv) (.slice (some ⟨bb, off, none⟩) m.cons.length cc) (.slice asv scope.length csv) scope vals (out ++ [a]) (w3.setCell ⟨N + 2, 0, none⟩ v3)) := HPUT.1
    have HB4 : Hid (Below N w (w3.setCell ⟨N + 2, 0, none⟩ v3)) := hbN.trans (((Below.refl _ _).alloc (by omega) _).trans HPUT.2)
    have ht3 : w3.ownsRow N 55 1 (.slice (some ⟨N + 2, 0, none⟩) 1 1) 1 [.slice ax out.length cx] := (ho.alloc _).kept hgrow (Or.inr (fun h => by have := (hr.lt (N + 2) h.symm).1; omega))
    have hcB : w3.cell? ⟨N + 2, 0, none⟩ = some (.slice ax out.length cx) := ht3.cellAt 0 (by omega)
    have hfB : w3.frozen? ⟨N + 2, 0, none⟩ = false := ht3.frozenAt 0
    obtain ⟨av', cv', rfl⟩ := own_form hown4
    rw [show (out ++ [a]).length = out.length + 1 by simp] at HP HB4
    clear hown3 hgrow hown4 hr ho hco ht3 HPUT
    go_wp2
    (try simp only [Exit.inBlock, Exit.then])
    refine bodyPost_ret (results_none rfl _ _ _) rfl ?_
    exact ⟨rfl, by rw [← HE.out]; exact HP.out, HB4.out⟩
end Go.Proofs.YtijohkhpigjbkadGreatDoor
/-
  WALK: package fence: the closure that goes through a constraint's values, to its end.
-/
namespace Go.Proofs.YtijohkhpigjbkadGreatDoor
open Go.RowKit

theorem var_cells {w : World} {b off c n : Nat} {l : List MVar} (h : VArg w (.slice (some ⟨b, off, none⟩) n c) l) (j : Nat) (hj : j < l.length) :
    b < w.heap.size ∧ w.cell? ⟨b, off + j * 3 + 1, none⟩ = some (.int .i64 (varAt l j).lo) ∧ w.cell? ⟨b, off + j * 3 + 2, none⟩ = some (.int .i64 (varAt l j).hi) := by
  obtain ⟨a, c', hv, _, hr⟩ := h
  obtain ⟨_, b', off', ha, hb, _, c1, c2⟩ := hr j _ (var_at hj)
  injection hv with e1 _ _
  rw [ha] at e1
  cases e1
  exact ⟨hb, c1, c2⟩

set_option maxHeartbeats 3200000 in
set_option maxRecDepth 100000 in
theorem pts_any (N bs bm bc : Nat) (m : Mod) (con : Nat) (c : MCon) (vs cs sv : Value) (scope : List Int) (hm : checkM m = 0) (hc : m.cons[con]? = some c) (hsc : ∀ v ∈ scope, 0 ≤ v ∧ v < (m.vars.length : Int)) (hs8 : scope.length ≤ 8) :
    ∀ (rest : List Int) (k : Nat) (vals : List Int) (a : Nat) (out : List Nat) (w : World), scope.drop k = rest → k ≤ scope.length → vals.length = m.vars.length → (∀ x ∈ vals, -50 ≤ x ∧ x ≤ 50) → a < 2 ^ 36 → out.length + 6 ^ rest.length ≤ 10000000 →
      PtsS N bs bm bc m con vs cs sv scope vals out w →
      Calls Tryz.prog 60 #[.int .i64 k, .int .u64 a, .pointer (some ⟨bs, 0, none⟩), .pointer (some ⟨bm, 0, none⟩), .pointer (some ⟨bc, 0, none⟩), .pointer (some ⟨N + 1, 0, none⟩), .pointer (some ⟨N + 2, 0, none⟩), .pointer (some ⟨N + 3, 0, none⟩)] w fun e w' => e = .returned (.tuple #[]) ∧
        ∃ vals', PtsS N bs bm bc m con vs cs sv scope vals' (out ++ pointsN m.vars c rest vals a) w' ∧ vals'.length = m.vars.length ∧ (∀ x ∈ vals', -50 ≤ x ∧ x ≤ 50) ∧ Agree rest vals vals' ∧ Below N w w' := by
  have HSC : Hid (∀ v ∈ scope, 0 ≤ v ∧ v < (m.vars.length : Int)) := hsc
  have HVA : Hid (VarsAll m.vars) := vars_all m hm
  have HCE : Hid (conE m.vars.length c = 0) := con_ok m hm con c hc
  have HC : Hid (m.cons[con]? = some c) := hc
  clear hsc hm hc
  intro rest
  induction rest with
  | nil =>
    intro k vals a out w hdr hk hvl hvb ha hbud hT
    have hks : k = scope.length := by
      have := congrArg List.length hdr
      simp at this
      omega
    subst hks
    refine (pts_end N bs bm bc m con c vs cs sv scope vals a out w HC.out (by rw [hvl]; exact HCE.out) hvb (by simp at hbud; omega) hT).mono ?_
    rintro e w' ⟨rfl, h1, h2⟩
    exact ⟨rfl, vals, h1, hvl, hvb, Agree.refl _ _, h2⟩
  | cons v rest ih =>
    intro k vals a out w hdr hk hvl hvb ha hbud hT
    have hkl : k < scope.length := by
      have := congrArg List.length hdr
      simp at this
      omega
    have hkv : scope[k]? = some v := by
      have h := congrArg (fun q : List Int => q[0]?) hdr
      simpa using h
    have hdr2 : scope.drop (k + 1) = rest := by
      have h := congrArg List.tail hdr
      simpa using h
    obtain ⟨hv0, hv1⟩ := HSC.out v (List.mem_of_getElem? hkv)
    obtain ⟨j, rfl⟩ : ∃ j : Nat, v = (j : Int) := ⟨v.toNat, by omega⟩
    have hjs : j < m.vars.length := by omega
    obtain ⟨hma, hia, d0, d1, _, _, _, _, _⟩ := hT.old
    obtain ⟨⟨av, cv, hvs, hmv, hrv⟩, _⟩ := hma
    obtain ⟨_, b, off, hav, hbv, _, f1, f2⟩ := hrv j _ (var_at hjs)
    subst hav
    subst hvs
    obtain ⟨asv, csv, hsv, hms, hscell⟩ := hia
    obtain ⟨b2, o2, has, hb2, e0⟩ := hscell k _ hkv
    subst has
    subst hsv
    unfold maxLen at hms hmv
    obtain ⟨hms1, hms⟩ := hms
    obtain ⟨hmv1, hmv⟩ := hmv
    obtain ⟨lo, hlo⟩ : ∃ lo, (varAt m.vars j).lo = lo := ⟨_, rfl⟩
    obtain ⟨hi, hhi⟩ : ∃ hi, (varAt m.vars j).hi = hi := ⟨_, rfl⟩
    obtain ⟨n, hn⟩ : ∃ n, sizeV (varAt m.vars j) = n := ⟨_, rfl⟩
    have HLO : Hid ((varAt m.vars j).lo = lo) := hlo
    have HHI : Hid ((varAt m.vars j).hi = hi) := hhi
    have hbn := HVA.out.2 j hjs
    have hn6 : n ≤ 6 := by rw [← hn]; exact HVA.out.1.2 j
    have hnn : (n : Int) = hi + 1 - lo := by rw [← hn, ← hlo, ← hhi]; unfold sizeV; omega
    rw [hlo] at f1 hbn
    rw [hhi] at f2 hbn
    have H6 : Hid (m.vars.length ≤ 6) := HVA.out.1.1
    have HT : Hid (PtsS N bs bm bc m con (.slice (some ⟨b, off, none⟩) m.vars.length cv) cs (.slice (some ⟨b2, o2, none⟩) scope.length csv) scope vals out w) := hT
    have HVB : Hid (∀ x ∈ vals, -50 ≤ x ∧ x ≤ 50) := hvb
    have HVL : Hid (vals.length = m.vars.length) := hvl
    have HA : Hid (a < 2 ^ 36) := ha
    have HALL : Hid (ptsN m.vars c j rest vals a lo n = pointsN m.vars c ((j : Int) :: rest) vals a) := by show _ = _; rw [← hlo, ← hn]; exact ptsN_all m.vars c j rest vals a
    obtain ⟨X, hX⟩ : ∃ X, 6 ^ rest.length = X := ⟨_, rfl⟩
    have hbud2 : out.length + 6 * X ≤ 10000000 := by
      rw [List.length_cons, Nat.pow_succ] at hbud
      omega
    have HCNT : Hid (∀ jj, (ptsN m.vars c j rest vals a lo jj).length ≤ jj * X) := fun jj => by rw [← hX]; exact ptsN_count m.vars HVA.out.1 c j rest vals a lo jj
    have HIH : Hid (∀ (vals : List Int) (a : Nat) (out : List Nat) (w : World), vals.length = m.vars.length → (∀ x ∈ vals, -50 ≤ x ∧ x ≤ 50) → a < 2 ^ 36 → out.length + X ≤ 10000000 →
      PtsS N bs bm bc m con (.slice (some ⟨b, off, none⟩) m.vars.length cv) cs (.slice (some ⟨b2, o2, none⟩) scope.length csv) scope vals out w →
      Calls Tryz.prog 60 #[.int .i64 ((k : Int) + 1), .int .u64 a, .pointer (some ⟨bs, 0, none⟩), .pointer (some ⟨bm, 0, none⟩), .pointer (some ⟨bc, 0, none⟩), .pointer (some ⟨N + 1, 0, none⟩), .pointer (some ⟨N + 2, 0, none⟩), .pointer (some ⟨N + 3, 0, none⟩)] w fun e w' => e = .returned (.tuple #[]) ∧
        ∃ vals', PtsS N bs bm bc m con (.slice (some ⟨b, off, none⟩) m.vars.length cv) cs (.slice (some ⟨b2, o2, none⟩) scope.length csv) scope vals' (out ++ pointsN m.vars c rest vals a) w' ∧ vals'.length = m.vars.length ∧ (∀ x ∈ vals', -50 ≤ x ∧ x ≤ 50) ∧ Agree rest vals vals' ∧ Below N w w') := by
      intro vals1 a1 out1 w1 q1 q2 q3 q4 q5
      exact ih (k + 1) vals1 a1 out1 w1 hdr2 (by omega) q1 q2 q3 (by rw [hX]; exact q4) q5
    have HONE : Hid (∀ (jj : Nat) (w' : World), jj < n → VArg w' (.slice (some ⟨b, off, none⟩) m.vars.length cv) m.vars → Calls Tryz.prog 61 #[.slice (some ⟨b, off, none⟩) m.vars.length cv, .int .i64 j, .int .i64 (lo + (jj : Int))] w' fun e w'' => e = .returned (.int .u64 ((2 ^ (6 * j + jj) : Nat) : Int)) ∧ w'' = w') := by
      intro jj w' hjj hva'
      have h1 := one_any m.vars HVA.out.1 j (lo + (jj : Int)) _ w' hva' hjs (by rw [HLO.out]; omega) (by rw [HHI.out]; omega) (by rw [HLO.out, HHI.out]; omega)
      rw [HLO.out, show (lo + (jj : Int) - lo).toNat = jj by omega] at h1
      exact h1
    have HPOW : Hid (∀ jj, jj < n → 2 ^ (6 * j + jj) < 2 ^ 36) := fun jj hjj => pow_lt36 m.vars HVA.out j jj hjs (by omega)
    have g0 : ((k : Int) == (scope.length : Int)) = false := by simp; omega
    have hlt8 : k < 8 := by omega
    clear hT hvb hdr hvl hbud hrv hscell ih hX hdr2 hkv hv0 hv1 hlo hhi hn ha
    go_enter Tryz.func60, Tryz.ntmps60
    go_wp2_with fail
    clear d0 d1 e0 f1 f2
    go_loopw [11] (fun i wr => ∃ (jj : Nat) (vals' : List Int), jj ≤ n ∧ i = .int .i64 (lo + (jj : Int)) ∧ PtsS N bs bm bc m con (.slice (some ⟨b, off, none⟩) m.vars.length cv) cs (.slice (some ⟨b2, o2, none⟩) scope.length csv) scope vals' (out ++ ptsN m.vars c j rest vals a lo jj) wr ∧ Hid (vals'.length = m.vars.length ∧ (∀ x ∈ vals', -50 ≤ x ∧ x ≤ 50) ∧ Agree ((j : Int) :: rest) vals vals') ∧ Below N w wr) (fun i _ => (hi + 1 - intOf i).toNat)
    case atStart => exact ⟨0, vals, by omega, by simp, by simpa [ptsN] using HT.out, ⟨HVL.out, HVB.out, Agree.refl _ _⟩, Below.refl _ _⟩
    case round =>
      obtain ⟨jj, vals', hjj, rfl, hTr, hH, hbw⟩ := hrel
      have HTR : Hid (PtsS N bs bm bc m con (.slice (some ⟨b, off, none⟩) m.vars.length cv) cs (.slice (some ⟨b2, o2, none⟩) scope.length csv) scope vals' (out ++ ptsN m.vars c j rest vals a lo jj) wr) := hTr
      have HBW : Hid (Below N w wr) := hbw
      clear hTr hbw
      obtain ⟨hma, _, _, d1, _, _, _, lm, _⟩ := HTR.out.old
      obtain ⟨lb, f1, f2⟩ := var_cells hma.1 j hjs
      rw [HLO.out] at f1
      rw [HHI.out] at f2
      clear hma
      by_cases hlt : jj < n
      · have hle : lo + (jj : Int) ≤ hi := by omega
        have hjv : j < vals'.length := by rw [hH.out.1]; exact hjs
        have d4 := HTR.out.2.2.2.1
        have HOW := HTR.out.2.2.1
        have hNl : N + 4 ≤ wr.heap.size := HTR.out.1
        obtain ⟨y, hy⟩ : ∃ y, vals'[j]? = some y := ⟨vals'[j], by simp [hjv]⟩
        have cN : wr.cell? ⟨N, j, none⟩ = some (.int .i64 y) := by rw [HOW.cellAt j (by omega), List.getElem?_map, hy]; rfl
        have zN := HOW.frozenAt j
        have HSET := HTR.out.set j (lo + (jj : Int))
        have hxb : -50 ≤ lo + (jj : Int) ∧ lo + (jj : Int) ≤ 50 := by omega
        have HST : Hid (PtsS N bs bm bc m con (.slice (some ⟨b, off, none⟩) m.vars.length cv) cs (.slice (some ⟨b2, o2, none⟩) scope.length csv) scope (vals'.set j (lo + (jj : Int))) (out ++ ptsN m.vars c j rest vals a lo jj) (wr.setCell ⟨N, j, none⟩ (.int .i64 (lo + (jj : Int))))) := HSET.1
        have HSB : Hid (Below N w (wr.setCell ⟨N, j, none⟩ (.int .i64 (lo + (jj : Int))))) := HBW.out.trans HSET.2
        have HV1 : Hid ((vals'.set j (lo + (jj : Int))).length = m.vars.length) := by show _ = _; rw [List.length_set]; exact hH.out.1
        have HV2 : Hid (∀ y ∈ vals'.set j (lo + (jj : Int)), -50 ≤ y ∧ y ≤ 50) := bounds_set _ _ _ hH.out.2.1 hxb
        have HBU : Hid ((out ++ ptsN m.vars c j rest vals a lo jj).length + X ≤ 10000000) := by
          have h1 := HCNT.out jj
          have h2 : jj * X ≤ 5 * X := Nat.mul_le_mul_right _ (by omega)
          show _ ≤ _
          rw [List.length_append]
          omega
        have HNX : Hid (ptsN m.vars c j rest vals a lo (jj + 1) = ptsN m.vars c j rest vals a lo jj ++ pointsN m.vars c rest (vals'.set j (lo + (jj : Int))) (a ||| 2 ^ (6 * j + jj))) := by
          show _ = _
          rw [ptsN_next]
          congr 1
          have h := (hH.out.2.2).set (lo + (jj : Int))
          exact points_same m.vars c rest _ _ _ h
        have HAG : Hid (Agree ((j : Int) :: rest) vals (vals'.set j (lo + (jj : Int)))) := (hH.out.2.2).trans (Agree.of_set rest vals' (j : Int) (lo + (jj : Int)))
        have hp36 := HPOW.out jj hlt
        obtain ⟨t, ht⟩ : ∃ t, 2 ^ (6 * j + jj) = t := ⟨_, rfl⟩
        have HO1 := HONE.out jj
        rw [ht] at hp36 HNX HO1
        have HON : Hid (∀ (w' : World), VArg w' (.slice (some ⟨b, off, none⟩) m.vars.length cv) m.vars → Calls Tryz.prog 61 #[.slice (some ⟨b, off, none⟩) m.vars.length cv, .int .i64 j, .int .i64 (lo + (jj : Int))] w' fun e w'' => e = .returned (.int .u64 (t : Int)) ∧ w'' = w') := fun w' h => HO1 w' hlt h
        have hor := bits_or_u64_nat a t (by have := HA.out; omega) (by omega)
        obtain ⟨a2, ha2⟩ : ∃ a2, a ||| t = a2 := ⟨_, rfl⟩
        have HA2 : Hid (a2 < 2 ^ 36) := by rw [← ha2]; exact or_lt36 HA.out hp36
        rw [ha2] at hor HNX
        clear hy HOW HSET hH hxb ht HO1 hp36 ha2
        go_wp2_with fail
        obtain ⟨W2, hW2⟩ : ∃ W2, wr.setCell ⟨N, j, none⟩ (.int .i64 (lo + (jj : Int))) = W2 := ⟨_, rfl⟩
        rw [hW2] at HST HSB ⊢
        clear hW2 d1 f1 f2 d4 cN zN lm lb hNl
        obtain ⟨hma, _, _, d1, _, _, _, lm, _⟩ := HST.out.old
        have d5 := HST.out.2.2.2.2.1
        unfold ptsCaps at d5
        have HMV : Hid (VArg W2.drew (.slice (some ⟨b, off, none⟩) m.vars.length cv) m.vars) := VArg.below (Below.refl _ _).drew hma.1
        have HSTD : Hid (PtsS N bs bm bc m con (.slice (some ⟨b, off, none⟩) m.vars.length cv) cs (.slice (some ⟨b2, o2, none⟩) scope.length csv) scope (vals'.set j (lo + (jj : Int))) (out ++ ptsN m.vars c j rest vals a lo jj) W2.drew) := HST.out.below (Below.refl _ _).drew
        clear hma
        have hwk : IntKind.i64.wrap ((k : Int) + 1) = (k : Int) + 1 := by simp [IntKind.wrap, IntKind.signed, IntKind.bits]; omega
        go_region_held3 (fun w' => w'.cell? ⟨N + 3, 0, none⟩ = some (.func (.func 60) #[] #[.pointer (some ⟨bs, 0, none⟩), .pointer (some ⟨bm, 0, none⟩), .pointer (some ⟨bc, 0, none⟩), .pointer (some ⟨N + 1, 0, none⟩), .pointer (some ⟨N + 2, 0, none⟩), .pointer (some ⟨N + 3, 0, none⟩)]) ∧ w'.cell? ⟨bm, 0, none⟩ = some (.slice (some ⟨b, off, none⟩) m.vars.length cv))
          (first | exact ⟨d5, d1⟩ | assumption | exact ⟨hd5, hd1⟩)
          (first
            | (go_at_call 61; refine (HON.out _ HMV.out).mono ?_; rintro e w2 ⟨rfl, rfl⟩)
            | (go_at_call 60; refine (HIH.out _ _ _ _ HV1.out HV2.out HA2.out HBU.out HSTD.out).mono ?_; rintro e w2 ⟨rfl, v2, hT2, hl2, hb2', hag2, hbN2⟩; have hd5 := hT2.2.2.2.2.1; unfold ptsCaps at hd5; have hd1 := hT2.old.2.2.2.1))
        · have HT2 : Hid (PtsS N bs bm bc m con (.slice (some ⟨b, off, none⟩) m.vars.length cv) cs (.slice (some ⟨b2, o2, none⟩) scope.length csv) scope v2 (out ++ ptsN m.vars c j rest vals a lo (jj + 1)) w2) := by
            rw [HNX.out, ← List.append_assoc]; exact hT2
          have HH2 : Hid (v2.length = m.vars.length ∧ (∀ x ∈ v2, -50 ≤ x ∧ x ≤ 50) ∧ Agree ((j : Int) :: rest) vals v2) := ⟨hl2, hb2', HAG.out.trans (Agree.cons _ hag2)⟩
          have HB2 : Hid (Below N w w2) := HSB.out.trans ((Below.refl _ _).drew.trans hbN2)
          clear hT2 hl2 hb2' hag2 hbN2 hd5 hd1
          go_wp2
          go_roundw
          case rel => exact ⟨jj + 1, v2, by omega, by go_num, HT2.out, HH2, HB2.out⟩
          case measure => simp [intOf]; omega
      · have hle : ¬ (lo + (jj : Int) ≤ hi) := by omega
        have hje : jj = n := by omega
        have HF : Hid (PtsS N bs bm bc m con (.slice (some ⟨b, off, none⟩) m.vars.length cv) cs (.slice (some ⟨b2, o2, none⟩) scope.length csv) scope vals' (out ++ pointsN m.vars c ((j : Int) :: rest) vals a) wr) := by
          have h := HTR.out
          rw [hje, HALL.out] at h
          exact h
        clear hje
        go_wp2
        go_end0
        exact ⟨rfl, vals', HF.out, hH.out.1, hH.out.2.1, hH.out.2.2, HBW.out⟩
end Go.Proofs.YtijohkhpigjbkadGreatDoor
