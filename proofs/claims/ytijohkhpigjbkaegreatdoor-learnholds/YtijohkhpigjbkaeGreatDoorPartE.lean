/-
  PART 5 of what the proof leans on (StoB, StoC, FenB, ExpPlain, FenT, FenD, FolPlain, FolA, FenC, PPa).
-/
import Derived.Test.YtijohkhpigjbkaeGreatDoorPartD
import Derived.Deep.RegionHeld3
import Derived.Shelf.Spec.TrailingZeros
import Derived.Deep.RegionLaw
/-
  WALKS: package store: checkValues, check.
-/
namespace Go.Proofs.YtijohkhpigjbkaeGreatDoor
open Go.RowKit

set_option maxHeartbeats 400000 in
set_option maxRecDepth 100000 in
theorem beyond_any (vs : List MVar) (a : Value) (b1 b2 k : Nat) (t : MVar) (z : Int) (w : World) (hv : VArg w a vs) (ht : vs[k]? = some t) (h1 : w.cell? ⟨b1, 0, none⟩ = some a) (h2 : w.cell? ⟨b2, 0, none⟩ = some (.int .i64 k)) :
    Calls Tryz.prog 196 #[.int .i64 z, .pointer (some ⟨b1, 0, none⟩), .pointer (some ⟨b2, 0, none⟩)] w fun e w' => e = .returned (.bool (!insideB t z)) ∧ w' = w := by
  obtain ⟨a', c, rfl, hm, hr⟩ := hv
  have hkl : k < vs.length := (List.getElem?_eq_some_iff.1 ht).1
  obtain ⟨_, b, off, rfl, hlt, c0, c1, c2⟩ := hr k t ht
  unfold maxLen at hm
  obtain ⟨hm1, hm⟩ := hm
  clear hr ht
  unfold insideB
  by_cases q1 : z < t.lo
  · go_enter Tryz.func196, Tryz.ntmps196
    go_wp2
    go_ret
    exact ⟨ret_bool (by first | rfl | (simp; omega)), rfl⟩
  · by_cases q2 : t.hi < z
    · go_enter Tryz.func196, Tryz.ntmps196
      go_wp2
      go_ret
      exact ⟨ret_bool (by first | rfl | (simp; omega)), rfl⟩
    · go_enter Tryz.func196, Tryz.ntmps196
      go_wp2
      go_ret
      exact ⟨ret_bool (by first | rfl | (simp; omega)), rfl⟩

theorem enters_beyond (args : Array Value) (w' : World) : Sem.run Tryz.prog (callFunc 196 args) w' = .ok (.enter 196 args) w' := by
  simp [callFunc, go_sem, Tryz.func196, Tryz.f196]
theorem any_not {α : Type} (p : α → Bool) (l : List α) : (l.any fun x => !p x) = !l.all p := by
  induction l with
  | nil => rfl
  | cons a r ih => rw [List.any_cons, List.all_cons, ih]; cases p a <;> simp

set_option maxHeartbeats 1600000 in
set_option maxRecDepth 100000 in
theorem values_any (vs : List MVar) (s : Sto) (a v : Value) (w : World) (ha : VArg w a vs) (hv : RArg w v s) :
    Calls Tryz.prog 154 #[a, v] w fun e w' => e = .returned (.int .i64 (checkV vs s)) ∧ Below w.heap.size w w' := by
  have HA : Hid (∀ w' : World, Below w.heap.size w w' → VArg w' a vs) := fun w' h => VArg.below h ha
  have HVB : Hid (∀ w' : World, Below w.heap.size w w' → RArg w' v s) := fun w' h => RArg.below h hv
  obtain ⟨a1, c1, rfl, hl1, hr1⟩ := ha
  obtain ⟨a2, c2, rfl, hl2, hr2⟩ := hv
  obtain ⟨R, hR⟩ : ∃ R, checkV vs s = R := ⟨_, rfl⟩
  rw [hR]
  unfold maxLen at hl1 hl2
  obtain ⟨hl11, hl1⟩ := hl1
  obtain ⟨hl21, hl2⟩ := hl2
  clear hr1 hr2
  by_cases h0 : s.length = vs.length
  · have HE : Hid (R = if (vs.zip s).all (fun p => p.2.all (insideB p.1)) then (if s.all risesB then 0 else 4) else 3) := by
      rw [← hR]; unfold checkV rangeS; rw [if_pos h0]; rfl
    have g0 : ((s.length : Int) != (vs.length : Int)) = false := by simp [h0]
    have H0 : Hid (s.length = vs.length) := h0
    clear hR h0
    go_enter Tryz.func154, Tryz.ntmps154
    go_wp2_with fail
    obtain ⟨w0, hw0⟩ : ∃ w0 : World, w0 = w.alloc (.cells #[.slice a1 vs.length c1] 22) := ⟨_, rfl⟩
    rw [← hw0]
    have HB0 : Hid (Below w.heap.size w w0) := by rw [hw0]; exact below_alloc _ _
    have HZ0 : Hid (w0.heap.size = w.heap.size + 1) := by show _ = _; show _ = _; rw [hw0]; simp
    have HD : Hid (w0.cell? ⟨w.heap.size, 0, none⟩ = some (.slice a1 vs.length c1)) := by show _ = _; rw [hw0]; simp
    clear hw0
    go_loopw [17] (fun i wr => ∃ k : Nat, k ≤ s.length ∧ i = .int .i64 k ∧ Hid (((vs.zip s).take k).all (fun p => p.2.all (insideB p.1)) = true) ∧ Below w0.heap.size w0 wr) (fun i _ => s.length - (intOf i).toNat)
    case atStart => exact ⟨0, by omega, rfl, rfl, Below.refl _ _⟩
    case round =>
      obtain ⟨k, hk, rfl, hall, hbw⟩ := hrel
      have hlt0 : w.heap.size < w0.heap.size := by rw [HZ0.out]; omega
      have HBW : Hid (Below w.heap.size w wr) := HB0.out.trans (hbw.mono (by omega))
      by_cases hlt : k < s.length
      · obtain ⟨t, ht⟩ : ∃ t, vs[k]? = some t := ⟨vs[k]'(by rw [← H0.out]; exact hlt), by simp⟩
        obtain ⟨r, hrr⟩ : ∃ r, s[k]? = some r := ⟨s[k], by simp [hlt]⟩
        have HG : Hid ((vs.zip s)[k]? = some (t, r)) := by show _ = _; rw [List.getElem?_zip_eq_some]; exact ⟨ht, hrr⟩
        obtain ⟨a2', c2', hva, _, hrc⟩ := HVB.out _ HBW.out
        obtain ⟨b, off, x, hax, hb, hc, hix⟩ := hrc k r hrr
        have ha2 : a2 = some ⟨b, off, none⟩ := by cases hva; exact hax
        subst ha2
        have HIX : Hid (IArg wr x r) := hix
        have HT : Hid (vs[k]? = some t) := ht
        obtain ⟨a3, c3, rfl, _, _⟩ := hix
        have hsz := hbw.size
        clear ht hrr hva hrc hax
        go_wp2_with fail
        have hwk : (wr.alloc (.cells #[.int .i64 (k : Int)] 3)).cell? ⟨wr.heap.size, 0, none⟩ = some (.int .i64 k) := by simp
        have hbx : Below w.heap.size w (wr.alloc (.cells #[.int .i64 (k : Int)] 3)) := HBW.out.trans ((below_alloc _ _).mono HBW.out.size)
        have hbx0 : Below w0.heap.size w0 (wr.alloc (.cells #[.int .i64 (k : Int)] 3)) := hbw.alloc hsz _
        have hsx : (wr.alloc (.cells #[.int .i64 (k : Int)] 3)).heap.size = wr.heap.size + 1 := by simp
        obtain ⟨wx, hwx⟩ : ∃ wx : World, wx = wr.alloc (.cells #[.int .i64 (k : Int)] 3) := ⟨_, rfl⟩
        rw [← hwx] at hwk hbx hbx0 hsx ⊢
        have HIX2 : Hid (IArg wx (.slice a3 r.length c3) r) := by rw [hwx]; exact IArg.below (below_alloc _ _) HIX.out
        clear hwx
        refine (containsf_ints 196 _ (fun z => !insideB t z) r _ _ HIX2.out ⟨enters_beyond, ?_⟩).mono ?_
        · intro z w2 hb2
          have g1 := (hb2.cell (p := ⟨w.heap.size, 0, none⟩) (by simp only; omega)).trans ((hbx0.cell (p := ⟨w.heap.size, 0, none⟩) hlt0).trans HD.out)
          have g2 := (hb2.cell (p := ⟨wr.heap.size, 0, none⟩) (by simp only; omega)).trans hwk
          refine (beyond_any vs _ _ _ k t z w2 (HA.out _ (hbx.trans (hb2.mono (by omega)))) HT.out g1 g2).mono ?_
          rintro e w3 ⟨rfl, rfl⟩
          exact ⟨rfl, Below.refl _ _⟩
        rintro e w2 ⟨rfl, hb2⟩
        rw [any_not]
        have hbt : Below w0.heap.size w0 w2 := hbx0.trans (hb2.mono (by omega))
        cases hq : r.all (insideB t)
        · have HN : Hid (R = 3) := by
            have := all_hit (fun p : MVar × List Int => p.2.all (insideB p.1)) (vs.zip s) k (t, r) HG.out hq
            rw [HE.out, this]; rfl
          clear hq
          go_wp2
          go_ret
          exact ⟨ret_int HN.out.symm, HB0.out.trans (hbt.mono (by omega))⟩
        · have HN : Hid (((vs.zip s).take (k + 1)).all (fun p => p.2.all (insideB p.1)) = true) := all_next _ (vs.zip s) k (t, r) HG.out hall.out hq
          clear hq
          go_wp2
          go_roundw
          case rel => exact ⟨k + 1, by omega, by go_num, HN, hbt⟩
          case measure => simp [intOf]; omega
      · have HV : Hid ((vs.zip s).all (fun p => p.2.all (insideB p.1)) = true) := all_end _ _ k (by rw [List.length_zip, ← H0.out]; omega) hall.out
        have HE2 : Hid (R = if s.all risesB then 0 else 4) := by rw [HE.out, HV.out]; rfl
        have HBO : Hid (Below w.heap.size w wr) := HBW.out
        obtain ⟨wo, rfl⟩ : ∃ wo : World, wo = wr := ⟨_, rfl⟩
        go_wp2
        clear hk hall hbw hlt
        go_loopw [29] (fun i wr => ∃ k : Nat, k ≤ s.length ∧ i = .int .i64 k ∧ Hid ((s.take k).all risesB = true) ∧ Below w.heap.size w wr) (fun i _ => s.length - (intOf i).toNat)
        case atStart => exact ⟨0, by omega, rfl, rfl, HBO.out⟩
        case round =>
          obtain ⟨k, hk, rfl, hall, hbw⟩ := hrel
          by_cases hlt : k < s.length
          · obtain ⟨r, hrr⟩ : ∃ r, s[k]? = some r := ⟨s[k], by simp [hlt]⟩
            obtain ⟨a2', c2', hva, _, hrc⟩ := HVB.out _ hbw
            obtain ⟨b, off, x, hax, hb, hc, hix⟩ := hrc k r hrr
            have ha2 : a2 = some ⟨b, off, none⟩ := by cases hva; exact hax
            subst ha2
            have HIX : Hid (IArg wr x r) := hix
            have HRR : Hid (s[k]? = some r) := hrr
            obtain ⟨a3, c3, rfl, _, _⟩ := hix
            clear hrr hva hrc hax
            cases hq : risesB r
            · have HN : Hid (R = 4) := by rw [HE2.out, all_hit risesB s k r HRR.out hq]; rfl
              go_wp2_with fail
              refine (rises_any r _ _ HIX.out).mono ?_
              rintro e w2 ⟨rfl, n, hw2⟩
              rw [hq]
              have hb2 := hbw.trans ((draws_below hw2).mono hbw.size)
              clear hq hw2
              go_wp2
              go_ret
              exact ⟨ret_int HN.out.symm, hb2⟩
            · have HN : Hid ((s.take (k + 1)).all risesB = true) := all_next _ s k r HRR.out hall.out hq
              go_wp2_with fail
              refine (rises_any r _ _ HIX.out).mono ?_
              rintro e w2 ⟨rfl, n, hw2⟩
              rw [hq]
              have hb2 := hbw.trans ((draws_below hw2).mono hbw.size)
              clear hq hw2
              go_wp2
              go_roundw
              case rel => exact ⟨k + 1, by omega, by go_num, HN, hb2⟩
              case measure => simp [intOf]; omega
          · have HN : Hid (R = 0) := by rw [HE2.out, all_end _ s k hlt hall.out]; rfl
            go_wp2
            go_ret
            exact ⟨ret_int HN.out.symm, hbw⟩
  · have HE : Hid (R = 1) := by rw [← hR]; unfold checkV; rw [if_neg h0]; rfl
    have g0 : ((s.length : Int) != (vs.length : Int)) = true := by simp; omega
    clear hR h0
    go_enter Tryz.func154, Tryz.ntmps154
    go_wp2
    go_ret
    exact ⟨ret_int HE.out.symm, below_alloc _ _⟩

/-- Stores, one after the other, as a variadic call has them. -/
def GArg (w : World) (v : Value) (l : List Sto) : Prop :=
  ∃ a c, v = .slice a l.length c ∧ (l.length ≤ c ∧ c ≤ maxLen) ∧ ∀ (i : Nat) (r : Sto), l[i]? = some r → ∃ b off x, a = some ⟨b, off, none⟩ ∧ b < w.heap.size ∧ w.cell? ⟨b, off + i, none⟩ = some x ∧ RArg w x r
theorem GArg.below {w w' : World} {v : Value} {l : List Sto} (hb : Below w.heap.size w w') (h : GArg w v l) : GArg w' v l := by
  obtain ⟨a, c, hv, hm, hr⟩ := h
  refine ⟨a, c, hv, hm, fun i z hz => ?_⟩
  obtain ⟨b, off, x, ha, hlt, hc, hx⟩ := hr i z hz
  exact ⟨b, off, x, ha, Nat.lt_of_lt_of_le hlt hb.size, (hb.cell (p := ⟨b, off + i, none⟩) hlt).trans hc, RArg.below hb hx⟩

set_option maxHeartbeats 1600000 in
set_option maxRecDepth 100000 in
theorem check_any2 (m : Mod) (l : List Sto) (vs cs v : Value) (w : World) (hm : MArg w vs cs m) (hv : GArg w v l) :
    Calls Tryz.prog 98 #[modV vs cs m, v] w fun e w' => e = .returned (.int .i64 (checkL m l)) ∧ Below w.heap.size w w' := by
  have HMA : Hid (∀ w' : World, Below w.heap.size w w' → MArg w' vs cs m) := fun w' h => MArg.below h hm
  have HGA : Hid (∀ w' : World, Below w.heap.size w w' → GArg w' v l) := fun w' h => GArg.below h hv
  obtain ⟨⟨a1, c1, rfl, _, _⟩, ⟨a2, c2, rfl, _, _⟩⟩ := hm
  obtain ⟨a3, c3, rfl, hl3, _⟩ := hv
  unfold maxLen at hl3
  obtain ⟨hl31, hl3⟩ := hl3
  obtain ⟨R, hR⟩ : ∃ R, checkL m l = R := ⟨_, rfl⟩
  rw [hR]
  obtain ⟨er, her⟩ : ∃ er, checkM m = er := ⟨_, rfl⟩
  have HER : Hid (checkM m = er) := her
  have HE : Hid (R = if er = 0 then firstE (l.map (checkV m.vars)) else er) := by rw [← hR, ← her]; rfl
  clear hR her
  unfold modV
  go_enter Tryz.func98, Tryz.ntmps98
  go_wp2_with fail
  refine (check_model m _ _ _ (HMA.out _ (below_alloc _ _))).mono ?_
  rintro e w1 ⟨rfl, hb1⟩
  rw [HER.out]
  have d0 : w1.cell? ⟨w.heap.size, 0, none⟩ = some (.slice a1 m.vars.length c1) := (hb1.cell (by simp)).trans (by simp)
  have HB1 : Hid (Below w.heap.size w w1) := (below_alloc _ _).trans (hb1.mono (by simp))
  have hs1 : w.heap.size + 1 ≤ w1.heap.size := by simpa using hb1.size
  clear hb1
  by_cases he : er = 0
  · subst he
    have HE2 : Hid (R = firstE (l.map (checkV m.vars))) := by rw [HE.out, if_pos rfl]; rfl
    go_wp2_with fail
    go_loopw [16] (fun i wr => ∃ k : Nat, k ≤ l.length ∧ i = .int .i64 k ∧ Hid (firstE ((l.map (checkV m.vars)).take k) = 0) ∧ Below w1.heap.size w1 wr) (fun i _ => l.length - (intOf i).toNat)
    case atStart => exact ⟨0, by omega, rfl, rfl, Below.refl _ _⟩
    case round =>
      obtain ⟨k, hk, rfl, hno, hbw⟩ := hrel
      have HBW : Hid (Below w.heap.size w wr) := HB1.out.trans (hbw.mono (by omega))
      have e0 := (hbw.cell (p := ⟨w.heap.size, 0, none⟩) (by simp only; omega)).trans d0
      by_cases hlt : k < l.length
      · obtain ⟨s, hs⟩ : ∃ s, l[k]? = some s := ⟨l[k], by simp [hlt]⟩
        have HG : Hid ((l.map (checkV m.vars))[k]? = some (checkV m.vars s)) := by show _ = _; rw [List.getElem?_map, hs]; rfl
        obtain ⟨a2', c2', hva, _, hrc⟩ := HGA.out _ HBW.out
        obtain ⟨b, off, x, hax, hb, hc, hix⟩ := hrc k s hs
        have ha2 : a3 = some ⟨b, off, none⟩ := by cases hva; exact hax
        subst ha2
        have HIX : Hid (RArg wr x s) := hix
        obtain ⟨a4, c4, rfl, _, _⟩ := hix
        clear hs hva hrc hax
        go_wp2_with fail
        refine (values_any m.vars s _ _ _ (HMA.out _ HBW.out).1 HIX.out).mono ?_
        rintro e w2 ⟨rfl, hb2⟩
        obtain ⟨eq, heq⟩ : ∃ eq, checkV m.vars s = eq := ⟨_, rfl⟩
        have HG2 : Hid ((l.map (checkV m.vars))[k]? = some eq) := by rw [← heq]; exact HG.out
        rw [heq]
        clear heq
        have hbt : Below w1.heap.size w1 w2 := hbw.trans (hb2.mono hbw.size)
        by_cases hz : eq = 0
        · subst hz
          have HN : Hid (firstE ((l.map (checkV m.vars)).take (k + 1)) = 0) := firstE_step _ k hno.out HG2.out
          clear hb2
          go_wp2
          go_roundw
          case rel => exact ⟨k + 1, by omega, by go_num, HN, hbt⟩
          case measure => simp [intOf]; omega
        · have HN : Hid (R = eq) := by rw [HE2.out]; exact firstE_hit _ k eq hno.out HG2.out hz
          have he2 : (eq != 0) = true := by simpa using hz
          clear hb2 hz
          go_wp2
          go_ret
          exact ⟨ret_int HN.out.symm, HB1.out.trans (hbt.mono (by omega))⟩
      · have HN : Hid (R = 0) := by
          have := hno.out; rw [List.take_of_length_le (by simp; omega)] at this; rw [HE2.out]; exact this
        go_wp2
        go_ret
        exact ⟨ret_int HN.out.symm, HBW.out⟩
  · have HN : Hid (R = er) := by rw [HE.out, if_neg he]; rfl
    have he2 : (er != 0) = true := by simpa using he
    clear he
    go_wp2
    go_ret
    exact ⟨ret_int HN.out.symm, HB1.out⟩
end Go.Proofs.YtijohkhpigjbkaeGreatDoor
/-
  WALKS: package store: Check, Within, Failed.
-/
namespace Go.Proofs.YtijohkhpigjbkaeGreatDoor
open Go.RowKit

/-- One store, or two, in a row of their own. -/
theorem garg_one {w : World} {v : Value} {s : Sto} {B : Nat} (hB : B = w.heap.size) (h : RArg w v s) : GArg (w.alloc (.cells #[v] 27)) (.slice (some ⟨B, 0, none⟩) 1 1) [s] := by
  subst hB
  refine ⟨_, 1, rfl, ⟨by simp, by unfold maxLen; omega⟩, fun i r hr => ?_⟩
  match i, hr with
  | 0, hr => cases hr; exact ⟨_, _, v, rfl, by simp, by simp, RArg.below (below_alloc _ _) h⟩
theorem garg_two {w : World} {v u : Value} {s t : Sto} {B : Nat} (hB : B = w.heap.size) (h : RArg w v s) (k : RArg w u t) : GArg (w.alloc (.cells #[v, u] 27)) (.slice (some ⟨B, 0, none⟩) 2 2) [s, t] := by
  subst hB
  refine ⟨_, 2, rfl, ⟨by simp, by unfold maxLen; omega⟩, fun i r hr => ?_⟩
  match i, hr with
  | 0, hr => cases hr; exact ⟨_, _, v, rfl, by simp, by simp, RArg.below (below_alloc _ _) h⟩
  | 1, hr => cases hr; exact ⟨_, _, u, rfl, by simp, by simp, RArg.below (below_alloc _ _) k⟩

set_option maxHeartbeats 800000 in
set_option maxRecDepth 100000 in
theorem scheck_any (m : Mod) (s : Sto) (vs cs v : Value) (w : World) (hm : MArg w vs cs m) (hv : RArg w v s) :
    Calls Tryz.prog 153 #[modV vs cs m, v] w fun e w' => e = .returned (.int .i64 (checkL m [s])) ∧ Below w.heap.size w w' := by
  have HMA : Hid (∀ w' : World, Below w.heap.size w w' → MArg w' vs cs m) := fun w' h => MArg.below h hm
  have HVA : Hid (∀ w' : World, Below w.heap.size w w' → RArg w' v s) := fun w' h => RArg.below h hv
  obtain ⟨⟨a1, c1, rfl, _, _⟩, ⟨a2, c2, rfl, _, _⟩⟩ := hm
  obtain ⟨a3, c3, rfl, _, _⟩ := hv
  obtain ⟨R, HR⟩ : ∃ R, Hid (checkL m [s] = R) := ⟨_, rfl⟩
  rw [HR.out]
  unfold modV
  go_enter Tryz.func153, Tryz.ntmps153
  go_wp2_with fail
  refine (check_any2 m [s] (.slice a1 m.vars.length c1) (.slice a2 m.cons.length c2) _ _ ?_ ?_).mono ?_
  · exact HMA.out _ ((below_alloc _ _).alloc (by simp) _)
  · exact garg_one (by simp) (HVA.out _ (below_alloc _ _))
  rintro e w1 ⟨rfl, hb1⟩
  rw [HR.out]
  have hb : Below w.heap.size w w1 := (((below_alloc _ _).alloc (by simp) _)).trans (hb1.mono (by simp; omega))
  clear hb1
  go_wp2
  go_ret
  exact ⟨rfl, hb⟩

def withinA (m : Mod) (s t : Sto) : Bool × Int := if checkL m [s, t] = 0 then (withinS s t, 0) else (false, checkL m [s, t])
theorem checkL_two (m : Mod) (s t : Sto) : checkL m [s, t] = 0 ↔ checkM m = 0 ∧ checkV m.vars s = 0 ∧ checkV m.vars t = 0 := by
  unfold checkL
  by_cases h : checkM m = 0
  · rw [if_pos h]
    simp only [List.map, firstE]
    by_cases h1 : checkV m.vars s = 0
    · rw [if_pos h1]
      by_cases h2 : checkV m.vars t = 0
      · simp [h, h1, h2]
      · simp [h2]
    · simp [h1]
  · rw [if_neg h]; simp [h]

set_option maxHeartbeats 400000 in
theorem empty_any (r : List Int) (v : Value) (w : World) (hv : IArg w v r) :
    Calls Tryz.prog 111 #[v] w fun e w' => e = .returned (.bool (decide (r.length = 0))) ∧ w' = w := by
  obtain ⟨a, c, rfl, _, _⟩ := hv
  by_cases h : r.length = 0
  · have g : ((r.length : Int) == 0) = true := by simp [h]
    have h1 : decide (r.length = 0) = true := decide_eq_true h
    rw [h1]; clear h h1
    go_enter Tryz.func111, Tryz.ntmps111
    go_wp2
    go_ret
    exact ⟨rfl, rfl⟩
  · have g : ((r.length : Int) == 0) = false := by simpa using h
    have h1 : decide (r.length = 0) = false := decide_eq_false h
    rw [h1]; clear h h1
    go_enter Tryz.func111, Tryz.ntmps111
    go_wp2
    go_ret
    exact ⟨rfl, rfl⟩

set_option maxHeartbeats 800000 in
set_option maxRecDepth 100000 in
theorem indexf_empty (s : Sto) (v : Value) (w : World) (hv : RArg w v s) :
    Calls Tryz.prog 158 #[v, .func (.func 111) #[] #[]] w fun e w' => (∃ z : Int, e = .returned (.int .i64 z) ∧ decide (0 ≤ z) = failedS s) ∧ w' = w := by
  obtain ⟨a, c, rfl, hm, hr⟩ := hv
  have HV : Hid (∀ (i : Nat) (r : List Int), s[i]? = some r → ∃ b off x, a = some ⟨b, off, none⟩ ∧ b < w.heap.size ∧ w.cell? ⟨b, off + i, none⟩ = some x ∧ IArg w x r) := hr
  obtain ⟨R, hR⟩ : ∃ R, failedS s = R := ⟨_, rfl⟩
  rw [hR]
  have HR : Hid ((s.any fun r => decide (r.length = 0)) = R) := hR
  unfold maxLen at hm
  obtain ⟨hm1, hm⟩ := hm
  clear hr hR
  go_enter Tryz.func158, Tryz.ntmps158
  go_wp2_with fail
  go_loop [8] (fun i => ∃ m : Nat, m ≤ s.length ∧ i = .int .i64 m ∧ Hid ((s.take m).any (fun r => decide (r.length = 0)) = false)) (fun i => s.length - (intOf i).toNat)
  case atStart => exact ⟨0, by omega, rfl, rfl⟩
  case round =>
    obtain ⟨m, hml, rfl, hall⟩ := hrel
    by_cases hlt : m < s.length
    · obtain ⟨r, hz⟩ : ∃ r, s[m]? = some r := ⟨s[m], by simp [hlt]⟩
      obtain ⟨b, off, x, ha, hb, hc, hx⟩ := HV.out m r hz
      have HX : Hid (IArg w x r) := hx
      obtain ⟨a5, c5, rfl, _, _⟩ := hx
      have HZ : Hid (s[m]? = some r) := hz
      subst ha
      clear hz
      cases hq : decide (r.length = 0)
      · have HN : Hid ((s.take (m + 1)).any (fun r => decide (r.length = 0)) = false) := any_next (fun r : List Int => decide (r.length = 0)) s m r HZ.out hall.out hq
        have HQ : Hid (decide (r.length = 0) = false) := hq
        clear hq
        go_wp2_with fail
        refine (empty_any r _ _ HX.out).mono ?_
        rintro e w ⟨rfl, rfl⟩
        rw [HQ.out]
        go_wp2
        go_round
        case rel => exact ⟨m + 1, by omega, by go_num, HN⟩
        case measure => simp [intOf]; omega
      · have HN : Hid (R = true) := by rw [← HR.out]; exact any_hit (fun r : List Int => decide (r.length = 0)) s m r HZ.out hq
        have HQ : Hid (decide (r.length = 0) = true) := hq
        clear hq
        go_wp2_with fail
        refine (empty_any r _ _ HX.out).mono ?_
        rintro e w ⟨rfl, rfl⟩
        rw [HQ.out]
        go_wp2
        go_ret
        exact ⟨⟨_, rfl, by rw [HN.out]; simp⟩, rfl⟩
    · have HN : Hid (R = false) := by rw [← HR.out]; exact any_end _ s m hlt hall.out
      go_wp2
      go_ret
      exact ⟨⟨_, rfl, by rw [HN.out]; rfl⟩, rfl⟩

set_option maxHeartbeats 400000 in
theorem containsf_empty (s : Sto) (v : Value) (w : World) (hv : RArg w v s) :
    Calls Tryz.prog 110 #[v, .func (.func 111) #[] #[]] w fun e w' => e = .returned (.bool (failedS s)) ∧ w' = w := by
  go_enter Tryz.func110, Tryz.ntmps110
  go_wp2_with fail
  refine (indexf_empty s v _ hv).mono ?_
  rintro e w ⟨⟨z, rfl, hz⟩, rfl⟩
  have HZ : Hid (decide (0 ≤ z) = failedS s) := hz
  clear hz
  go_wp2
  go_ret
  exact ⟨ret_bool HZ.out, rfl⟩

set_option maxHeartbeats 400000 in
theorem sift_failed (s : Sto) (v : Value) (w : World) (hv : RArg w v s) :
    Calls Tryz.prog 59 #[v] w fun e w' => e = .returned (.bool (failedS s)) ∧ w' = w := by
  go_enter Tryz.func59, Tryz.ntmps59
  go_wp2_with fail
  refine (containsf_empty s v _ hv).mono ?_
  rintro e w ⟨rfl, rfl⟩
  go_wp2
  go_ret
  exact ⟨rfl, rfl⟩

def failedA (m : Mod) (s : Sto) : Bool × Int := if checkL m [s] = 0 then (failedS s, 0) else (false, checkL m [s])
set_option maxHeartbeats 800000 in
set_option maxRecDepth 100000 in
theorem sfailed_any (m : Mod) (s : Sto) (vs cs v : Value) (w : World) (hm : MArg w vs cs m) (hv : RArg w v s) :
    Calls Tryz.prog 53 #[modV vs cs m, v] w fun e w' => e = .returned (.tuple #[.bool (failedA m s).1, .int .i64 (failedA m s).2]) ∧ Below w.heap.size w w' := by
  have HMA : Hid (∀ w' : World, Below w.heap.size w w' → MArg w' vs cs m) := fun w' h => MArg.below h hm
  have HVA : Hid (∀ w' : World, Below w.heap.size w w' → RArg w' v s) := fun w' h => RArg.below h hv
  obtain ⟨⟨a1, c1, rfl, _, _⟩, ⟨a2, c2, rfl, _, _⟩⟩ := hm
  obtain ⟨a3, c3, rfl, _, _⟩ := hv
  obtain ⟨R, hR⟩ : ∃ R, failedA m s = R := ⟨_, rfl⟩
  rw [hR]
  obtain ⟨er, her⟩ : ∃ er, checkL m [s] = er := ⟨_, rfl⟩
  have HER : Hid (checkL m [s] = er) := her
  have HE : Hid (R = if er = 0 then (failedS s, 0) else (false, er)) := by rw [← hR, ← her]; rfl
  clear hR her
  unfold modV
  go_enter Tryz.func53, Tryz.ntmps53
  go_wp2_with fail
  refine (check_any2 m [s] (.slice a1 m.vars.length c1) (.slice a2 m.cons.length c2) _ _ ?_ ?_).mono ?_
  · exact HMA.out _ ((below_alloc _ _).alloc (by simp) _)
  · exact garg_one (by simp) (HVA.out _ (below_alloc _ _))
  rintro e w1 ⟨rfl, hb1⟩
  rw [HER.out]
  have HB1 : Hid (Below w.heap.size w w1) := (((below_alloc _ _).alloc (by simp) _)).trans (hb1.mono (by simp; omega))
  clear hb1
  by_cases he : er = 0
  · subst he
    have HE2 : Hid (R = (failedS s, 0)) := by rw [HE.out, if_pos rfl]; rfl
    go_wp2_with fail
    refine (sift_failed s _ _ (HVA.out _ HB1.out)).mono ?_
    rintro e w1 ⟨rfl, rfl⟩
    go_wp2
    go_ret2
    exact ⟨by rw [HE2.out]; rfl, HB1.out⟩
  · have HN : Hid (R = (false, er)) := by rw [HE.out, if_neg he]; rfl
    have he2 : (er != 0) = true := by simpa using he
    clear he
    go_wp2
    go_ret2
    exact ⟨by rw [HN.out]; rfl, HB1.out⟩
end Go.Proofs.YtijohkhpigjbkaeGreatDoor
/-
  WALKS: package fence: Whole, Stored, Held, Says.
-/
namespace Go.Proofs.YtijohkhpigjbkaeGreatDoor
open Go.RowKit

set_option maxHeartbeats 400000 in
theorem wholes_any (x y : Value) (w : World) : Calls Tryz.prog 139 #[x, y] w fun e w' => e = .returned (.bool true) ∧ Below w.heap.size w w' := by
  go_enter Tryz.func139, Tryz.ntmps139
  go_wp2
  go_ret
  exact ⟨rfl, Below.refl _ _⟩
theorem enters_whole (args : Array Value) (w' : World) : Sem.run Tryz.prog (callFunc 139 args) w' = .ok (.enter 139 args) w' := by
  simp [callFunc, go_sem, Tryz.func139, Tryz.f139]
set_option maxHeartbeats 400000 in
theorem whole_any (vs : List MVar) (hva : VarsAll vs) (sv : Value) (w : World) (hv : VArg w sv vs) :
    Calls Tryz.prog 79 #[sv] w fun e w' => e = .returned (.int .u64 ((wholeP vs : Nat) : Int)) ∧ Below w.heap.size w w' := by
  have HV : Hid (VArg w sv vs) := hv
  have HVO : Hid (VarsAll vs) := hva
  obtain ⟨a, c, rfl, _, _⟩ := hv
  clear hva
  go_enter Tryz.func79, Tryz.ntmps79
  go_wp2_with fail
  refine (of_any 139 #[] vs (fun _ _ => true) HVO.out _ _ HV.out ⟨enters_whole, fun k z w' _ _ _ _ => wholes_any _ _ w'⟩).mono ?_
  rintro e w1 ⟨rfl, hb1⟩
  go_wp2
  go_ret
  exact ⟨rfl, hb1⟩

set_option maxHeartbeats 400000 in
theorem stored_one (s : Sto) (k : Nat) (r : List Int) (z : Int) (u : Value) (b1 : Nat) (w : World) (hu : RArg w u s) (hr : s[k]? = some r) (h1 : w.cell? ⟨b1, 0, none⟩ = some u) :
    Calls Tryz.prog 140 #[.int .i64 k, .int .i64 z, .pointer (some ⟨b1, 0, none⟩)] w fun e w' => e = .returned (.bool (hasB r z)) ∧ Below w.heap.size w w' := by
  obtain ⟨a, c, rfl, hm, hrr⟩ := hu
  obtain ⟨b, off, x, rfl, hb, hc, hix⟩ := hrr k r hr
  have HIX : Hid (IArg w x r) := hix
  obtain ⟨a2, c2, rfl, _, _⟩ := hix
  have hk : k < s.length := (List.getElem?_eq_some_iff.1 hr).1
  unfold maxLen at hm
  obtain ⟨hm1, hm⟩ := hm
  clear hrr hr
  go_enter Tryz.func140, Tryz.ntmps140
  go_wp2_with fail
  refine (contains_ints r _ z _ HIX.out).mono ?_
  rintro e w ⟨rfl, rfl⟩
  go_wp2
  go_ret
  exact ⟨rfl, Below.refl _ _⟩
theorem enters_stored (args : Array Value) (w' : World) : Sem.run Tryz.prog (callFunc 140 args) w' = .ok (.enter 140 args) w' := by
  simp [callFunc, go_sem, Tryz.func140, Tryz.f140]
set_option maxHeartbeats 400000 in
theorem stored_any (vs : List MVar) (hva : VarsAll vs) (s : Sto) (hs : s.length = vs.length) (sv u : Value) (w : World) (hv : VArg w sv vs) (hu : RArg w u s) :
    Calls Tryz.prog 80 #[sv, u] w fun e w' => e = .returned (.int .u64 ((storedP vs s : Nat) : Int)) ∧ Below w.heap.size w w' := by
  have HV : Hid (∀ w', Below w.heap.size w w' → VArg w' sv vs) := fun w' h => VArg.below h hv
  have HU : Hid (∀ w', Below w.heap.size w w' → RArg w' u s) := fun w' h => RArg.below h hu
  have HVO : Hid (VarsAll vs) := hva
  have HS : Hid (s.length = vs.length) := hs
  obtain ⟨a, c, rfl, _, _⟩ := hv
  obtain ⟨a2, c2, rfl, _, _⟩ := hu
  clear hva hs
  go_enter Tryz.func80, Tryz.ntmps80
  go_wp2_with fail
  refine (of_any 140 _ vs (fun v x => hasB (s.getD v []) x) HVO.out _ _ (HV.out _ (below_alloc _ _)) ⟨enters_stored, fun k z w' hk _ _ hb' => ?_⟩).mono ?_
  · have hks : k < s.length := by rw [HS.out]; exact hk
    have hr : s[k]? = some (s.getD k []) := by rw [List.getD_eq_getElem?_getD, List.getElem?_eq_getElem hks]; rfl
    exact stored_one s k _ z _ w.heap.size w' (HU.out _ ((below_alloc _ _).trans (hb'.mono (by simp)))) hr ((hb'.cell (by simp)).trans (World.cell?_alloc_at _ _ _ 0 (by simp)))
  rintro e w1 ⟨rfl, hb1⟩
  have hb2 : Below w.heap.size w w1 := (below_alloc _ _).trans (hb1.mono (by simp))
  clear hb1
  go_wp2
  go_ret
  exact ⟨rfl, hb2⟩

set_option maxHeartbeats 400000 in
theorem held_one (c : Cla) (k : Nat) (z : Int) (u : Value) (b1 : Nat) (w : World) (hu : LArg w u c) (h1 : w.cell? ⟨b1, 0, none⟩ = some u) :
    Calls Tryz.prog 150 #[.int .i64 k, .int .i64 z, .pointer (some ⟨b1, 0, none⟩)] w fun e w' => e = .returned (.bool (oneB c k z)) ∧ Below w.heap.size w w' := by
  have HU : Hid (LArg w u c) := hu
  obtain ⟨a, cc, rfl, _, _⟩ := hu
  go_enter Tryz.func150, Tryz.ntmps150
  go_wp2_with fail
  refine (one_of c k z _ _ HU.out).mono ?_
  rintro e w1 ⟨rfl, hb1⟩
  go_wp2
  go_ret
  exact ⟨rfl, hb1⟩
theorem enters_held (args : Array Value) (w' : World) : Sem.run Tryz.prog (callFunc 150 args) w' = .ok (.enter 150 args) w' := by
  simp [callFunc, go_sem, Tryz.func150, Tryz.f150]
set_option maxHeartbeats 400000 in
theorem held_any (vs : List MVar) (hva : VarsAll vs) (cl : Cla) (sv u : Value) (w : World) (hv : VArg w sv vs) (hu : LArg w u cl) :
    Calls Tryz.prog 87 #[sv, u] w fun e w' => e = .returned (.int .u64 ((heldP vs cl : Nat) : Int)) ∧ Below w.heap.size w w' := by
  have HV : Hid (∀ w', Below w.heap.size w w' → VArg w' sv vs) := fun w' h => VArg.below h hv
  have HU : Hid (∀ w', Below w.heap.size w w' → LArg w' u cl) := fun w' h => LArg.below h hu
  have HVO : Hid (VarsAll vs) := hva
  obtain ⟨a, c, rfl, _, _⟩ := hv
  obtain ⟨a2, c2, rfl, _, _⟩ := hu
  clear hva
  go_enter Tryz.func87, Tryz.ntmps87
  go_wp2_with fail
  refine (of_any 150 _ vs (fun v x => oneB cl v x) HVO.out _ _ (HV.out _ (below_alloc _ _)) ⟨enters_held, fun k z w' hk _ _ hb' => ?_⟩).mono ?_
  · exact held_one cl k z _ w.heap.size w' (HU.out _ ((below_alloc _ _).trans (hb'.mono (by simp)))) ((hb'.cell (by simp)).trans (World.cell?_alloc_at _ _ _ 0 (by simp)))
  rintro e w1 ⟨rfl, hb1⟩
  have hb2 : Below w.heap.size w w1 := (below_alloc _ _).trans (hb1.mono (by simp))
  clear hb1
  go_wp2
  go_ret
  exact ⟨rfl, hb2⟩

/-- A list of parts. -/
def PArg (w : World) (v : Value) (l : List Nat) : Prop :=
  ∃ a c, v = .slice a l.length c ∧ (l.length ≤ c ∧ c ≤ maxLen) ∧ ∀ (i z : Nat), l[i]? = some z → z < 2 ^ 36 ∧ ∃ b off, a = some ⟨b, off, none⟩ ∧ b < w.heap.size ∧ w.cell? ⟨b, off + i, none⟩ = some (.int .u64 z)
theorem PArg.below {w w' : World} {v : Value} {l : List Nat} (hb : Below w.heap.size w w') (h : PArg w v l) : PArg w' v l := by
  obtain ⟨a, c, hv, hm, hr⟩ := h
  refine ⟨a, c, hv, hm, fun i z hz => ?_⟩
  obtain ⟨hz36, b, off, ha, hlt, hc⟩ := hr i z hz
  exact ⟨hz36, b, off, ha, Nat.lt_of_lt_of_le hlt hb.size, (hb.cell (p := ⟨b, off + i, none⟩) hlt).trans hc⟩

set_option maxHeartbeats 400000 in
theorem stays_one (p h : Nat) (hp : p < 2 ^ 36) (hh : h < 2 ^ 36) (b1 : Nat) (w : World) (h1 : w.cell? ⟨b1, 0, none⟩ = some (.int .u64 h)) :
    Calls Tryz.prog 147 #[.int .u64 p, .pointer (some ⟨b1, 0, none⟩)] w fun e w' => e = .returned (.bool (stayP h p)) ∧ w' = w := by
  have hb := bits_and_u64_nat p h (by omega) (by omega)
  have HN : Hid (stayP h p = (((p &&& h : Nat) : Int) == 0)) := by
    show _ = _
    unfold stayP
    by_cases h0 : p &&& h = 0
    · simp [h0]
    · have : (((p &&& h : Nat) : Int) == 0) = false := by simpa using h0
      rw [this]; simpa using h0
  rw [HN.out]
  obtain ⟨q, hq⟩ : ∃ q, p &&& h = q := ⟨_, rfl⟩
  rw [hq] at hb ⊢
  clear hq hp hh
  go_enter Tryz.func147, Tryz.ntmps147
  go_wp2
  go_ret
  exact ⟨rfl, rfl⟩
theorem enters_stays1 (args : Array Value) (w' : World) : Sem.run Tryz.prog (callFunc 147 args) w' = .ok (.enter 147 args) w' := by
  simp [callFunc, go_sem, Tryz.func147, Tryz.f147]

set_option maxHeartbeats 400000 in
set_option maxRecDepth 100000 in
theorem indexf_parts (h : Nat) (hh : h < 2 ^ 36) (b1 : Nat) (l : List Nat) (v : Value) (w : World) (hv : PArg w v l) (h1 : w.cell? ⟨b1, 0, none⟩ = some (.int .u64 h)) :
    Calls Tryz.prog 194 #[v, .func (.func 147) #[] #[.pointer (some ⟨b1, 0, none⟩)]] w fun e w' => (∃ z : Int, e = .returned (.int .i64 z) ∧ (decide (0 ≤ z)) = l.any (stayP h)) ∧ w' = w := by
  obtain ⟨a, c, rfl, hm, hr⟩ := hv
  have HV : Hid (∀ (i z : Nat), l[i]? = some z → z < 2 ^ 36 ∧ ∃ b off, a = some ⟨b, off, none⟩ ∧ b < w.heap.size ∧ w.cell? ⟨b, off + i, none⟩ = some (.int .u64 z)) := hr
  have HH : Hid (h < 2 ^ 36) := hh
  unfold maxLen at hm
  obtain ⟨hm1, hm⟩ := hm
  clear hr hh
  go_enter Tryz.func194, Tryz.ntmps194
  go_wp2_with fail
  go_loopw [8] (fun i wr => ∃ k : Nat, k ≤ l.length ∧ i = .int .i64 k ∧ Hid ((l.take k).any (stayP h) = false) ∧ wr = w) (fun i _ => l.length - (intOf i).toNat)
  case atStart => exact ⟨0, by omega, rfl, rfl, rfl⟩
  case round =>
    obtain ⟨k, hk, rfl, hall, rfl⟩ := hrel
    by_cases hlt : k < l.length
    · obtain ⟨z, hz⟩ : ∃ z, l[k]? = some z := ⟨l[k], by simp [hlt]⟩
      obtain ⟨hz36, b, off, ha, hb, hc⟩ := HV.out k z hz
      subst ha
      have HZ : Hid (l[k]? = some z) := hz
      have HZ36 : Hid (z < 2 ^ 36) := hz36
      clear hz hz36
      cases hq : stayP h z
      · have HN : Hid ((l.take (k + 1)).any (stayP h) = false) := by show _ = _; rw [List.take_add_one, HZ.out, List.any_append, hall.out]; simp [hq]
        have HC := stays_one z h HZ36.out HH.out b1 wr h1
        rw [hq] at HC
        have HC2 : Hid (Calls Tryz.prog 147 #[.int .u64 z, .pointer (some ⟨b1, 0, none⟩)] wr fun e w' => e = .returned (.bool false) ∧ w' = wr) := HC
        clear HC hq hall
        go_wp2_with fail
        refine HC2.out.mono ?_
        rintro e w ⟨rfl, rfl⟩
        go_wp2
        go_roundw
        case rel => exact ⟨k + 1, by omega, by go_num, HN, trivial⟩
        case measure => simp [intOf]; omega
      · have HN : Hid (l.any (stayP h) = true) := List.any_eq_true.2 ⟨z, List.mem_of_getElem? HZ.out, hq⟩
        have HC := stays_one z h HZ36.out HH.out b1 wr h1
        rw [hq] at HC
        have HC2 : Hid (Calls Tryz.prog 147 #[.int .u64 z, .pointer (some ⟨b1, 0, none⟩)] wr fun e w' => e = .returned (.bool true) ∧ w' = wr) := HC
        clear HC hq hall
        go_wp2_with fail
        refine HC2.out.mono ?_
        rintro e w ⟨rfl, rfl⟩
        go_wp2
        go_ret
        exact ⟨⟨k, rfl, by rw [HN.out]; simp⟩, rfl⟩
    · have hke : k = l.length := by omega
      have HN : Hid (l.any (stayP h) = false) := by have := hall.out; rw [hke, List.take_length] at this; exact this
      clear hall hke
      go_wp2
      go_ret
      exact ⟨⟨-1, rfl, by rw [HN.out]; simp⟩, rfl⟩
set_option maxHeartbeats 400000 in
theorem containsf_parts (h : Nat) (hh : h < 2 ^ 36) (b1 : Nat) (l : List Nat) (v : Value) (w : World) (hv : PArg w v l) (h1 : w.cell? ⟨b1, 0, none⟩ = some (.int .u64 h)) :
    Calls Tryz.prog 149 #[v, .func (.func 147) #[] #[.pointer (some ⟨b1, 0, none⟩)]] w fun e w' => e = .returned (.bool (l.any (stayP h))) ∧ w' = w := by
  have HV : Hid (PArg w v l) := hv
  have HH : Hid (h < 2 ^ 36) := hh
  obtain ⟨a, c, rfl, _, _⟩ := hv
  clear hh
  go_enter Tryz.func149, Tryz.ntmps149
  go_wp2_with fail
  refine (indexf_parts h HH.out b1 l _ _ HV.out h1).mono ?_
  rintro e w ⟨⟨z, rfl, hz⟩, rfl⟩
  have HZ : Hid (decide (0 ≤ z) = l.any (stayP h)) := hz
  clear hz
  go_wp2
  go_ret
  exact ⟨ret_bool HZ.out, rfl⟩
end Go.Proofs.YtijohkhpigjbkaeGreatDoor
/-
  PLAIN: reasons: the bits of a part, what can be spared of it; that a reason holds where the constraint does.
-/
namespace Go.Proofs.YtijohkhpigjbkaeGreatDoor

/-- The bits of a part, from the least on. -/
def bitsL (p : Nat) : List Nat := (List.range 36).filter fun i => p.testBit i
theorem low_form (x : Nat) (h0 : x ≠ 0) (h : x < 2 ^ 64) : ∃ m, x = 2 ^ (Lib.ctz 64 x + 1) * m + 2 ^ Lib.ctz 64 x ∧ Lib.ctz 64 x < 64 := by
  obtain ⟨m, h1, h2⟩ := Lib.ctzFrom_spec 64 x (by omega) h
  have e : Lib.ctz 64 x = Lib.ctzFrom 64 x := by unfold Lib.ctz; rw [if_neg h0]
  rw [e]
  refine ⟨m, ?_, h2⟩
  conv => lhs; rw [h1]
  rw [Nat.pow_succ, Nat.mul_add, Nat.mul_one, Nat.mul_assoc]
theorem low_bits (x : Nat) (h0 : x ≠ 0) (h : x < 2 ^ 64) (i : Nat) : (i < Lib.ctz 64 x → x.testBit i = false) ∧ (i = Lib.ctz 64 x → x.testBit i = true) ∧ (x &&& (x - 1)).testBit i = (x.testBit i && !decide (i = Lib.ctz 64 x)) := by
  obtain ⟨m, h1, _⟩ := low_form x h0 h
  generalize hk : Lib.ctz 64 x = k at h1
  have hp : 0 < 2 ^ k := Nat.pow_pos (by omega)
  have hlt : 2 ^ k < 2 ^ (k + 1) := by rw [Nat.pow_succ]; omega
  have h2 : x - 1 = 2 ^ (k + 1) * m + (2 ^ k - 1) := by omega
  have t1 : x.testBit i = if i < k + 1 then decide (k = i) else m.testBit (i - (k + 1)) := by
    rw [h1, Nat.testBit_two_pow_mul_add _ hlt]
    split
    · exact testBit_pow k i
    · rfl
  have t2 : (x - 1).testBit i = if i < k + 1 then decide (i < k) else m.testBit (i - (k + 1)) := by
    rw [h2, Nat.testBit_two_pow_mul_add _ (by omega)]
    split
    · exact Nat.testBit_two_pow_sub_one ..
    · rfl
  refine ⟨fun hi => ?_, fun hi => ?_, ?_⟩
  · rw [t1, if_pos (by omega)]; simp; omega
  · rw [t1, if_pos (by omega)]; simp; omega
  · rw [Nat.testBit_and, t1, t2]
    by_cases hi : i < k + 1
    · rw [if_pos hi, if_pos hi]
      by_cases he : k = i
      · subst he; simp
      · simp [he]
    · rw [if_neg hi, if_neg hi, show decide (i = k) = false by simp; omega]; simp
theorem low_less (x : Nat) (h0 : x ≠ 0) (h : x < 2 ^ 64) : x &&& (x - 1) < x := by
  have h1 := low_bits x h0 h
  have hle : x &&& (x - 1) ≤ x := Nat.and_le_left
  have : x &&& (x - 1) ≠ x := fun he => by
    have h2 := (h1 (Lib.ctz 64 x)).2.2
    rw [he, (h1 (Lib.ctz 64 x)).2.1 rfl] at h2
    simp at h2
  omega
theorem bitsL_zero : bitsL 0 = [] := by simp [bitsL]
theorem bitsL_step (x : Nat) (h0 : x ≠ 0) (h : x < 2 ^ 36) : bitsL x = Lib.ctz 64 x :: bitsL (x &&& (x - 1)) ∧ Lib.ctz 64 x < 36 := by
  have h64 : x < 2 ^ 64 := Nat.lt_of_lt_of_le h (Nat.pow_le_pow_right (by omega) (by omega))
  have hb := low_bits x h0 h64
  have hk : Lib.ctz 64 x < 36 := by
    apply Classical.byContradiction
    intro hn
    have h1 := (hb (Lib.ctz 64 x)).2.1 rfl
    rw [Nat.testBit_lt_two_pow (Nat.lt_of_lt_of_le h (Nat.pow_le_pow_right (by omega) (by omega)))] at h1
    cases h1
  refine ⟨?_, hk⟩
  generalize hc : Lib.ctz 64 x = k at *
  unfold bitsL
  have hs : List.range 36 = List.range k ++ (k :: (List.range (36 - (k + 1))).map (· + (k + 1))) := by
    have h1 : List.range 36 = List.range ((k + 1) + (36 - (k + 1))) := by congr 1; omega
    rw [h1, List.range_add, List.range_succ, List.append_assoc]
    congr 1
    simp only [List.singleton_append, List.cons.injEq, true_and]
    apply List.map_congr_left
    intro a _
    omega
  rw [hs, List.filter_append, List.filter_append, List.filter_cons, List.filter_cons]
  have e1 : (List.range k).filter (fun i => x.testBit i) = [] := List.filter_eq_nil_iff.2 fun a ha => by
    rw [(hb a).1 (List.mem_range.1 ha)]; simp
  have e2 : (List.range k).filter (fun i => (x &&& (x - 1)).testBit i) = [] := List.filter_eq_nil_iff.2 fun a ha => by
    rw [(hb a).2.2, (hb a).1 (List.mem_range.1 ha)]; simp
  have e3 : x.testBit k = true := (hb k).2.1 rfl
  have e4 : (x &&& (x - 1)).testBit k = false := by rw [(hb k).2.2]; simp
  rw [e1, e2, e3, e4, if_pos rfl, if_neg (by simp), List.nil_append, List.nil_append]
  congr 1
  apply List.filter_congr
  intro a ha
  obtain ⟨b, _, rfl⟩ := List.mem_map.1 ha
  rw [(hb _).2.2, show decide (b + (k + 1) = k) = false by simp; omega]; simp
/-- A part's literals. -/
def litsP (vs : List MVar) (p : Nat) : Cla := (bitsL p).map fun i => ⟨((i / 6 : Nat) : Int), 3, (varAt vs (i / 6)).lo + ((i % 6 : Nat) : Int)⟩
theorem lits_len (vs : List MVar) (p : Nat) : (litsP vs p).length ≤ 36 := by
  unfold litsP bitsL
  rw [List.length_map]
  exact Nat.le_trans (List.length_filter_le _ _) (by simp)
/-- What can be spared is spared, bit by bit. -/
def spareP (says : Nat → Bool) : Nat → Nat → Nat → Nat
  | 0, gone, _ => gone
  | f + 1, gone, rest => if rest = 0 then gone else spareP says f (if says (lessN gone (2 ^ Lib.ctz 64 rest)) then lessN gone (2 ^ Lib.ctz 64 rest) else gone) (rest &&& (rest - 1))
theorem spare_says (says : Nat → Bool) : ∀ (f gone rest : Nat), says gone = true → says (spareP says f gone rest) = true
  | 0, gone, rest, h => h
  | f + 1, gone, rest, h => by
    unfold spareP
    split
    · exact h
    · apply spare_says
      split
      · assumption
      · exact h
theorem spare_sub (says : Nat → Bool) : ∀ (f gone rest i : Nat), (spareP says f gone rest).testBit i = true → gone.testBit i = true
  | 0, gone, rest, i, h => h
  | f + 1, gone, rest, i, h => by
    unfold spareP at h
    split at h
    · exact h
    · have := spare_sub says f _ _ i h
      split at this
      · rw [testBit_less, Bool.and_eq_true] at this
        exact this.1
      · exact this
theorem spare_fuel (says : Nat → Bool) : ∀ (f g gone rest : Nat), rest < f → rest < g → rest < 2 ^ 64 → spareP says f gone rest = spareP says g gone rest
  | 0, g, gone, rest, hf, hg, _ => by omega
  | f + 1, 0, gone, rest, hf, hg, _ => by omega
  | f + 1, g + 1, gone, rest, hf, hg, h => by
    unfold spareP
    split
    · rfl
    · rename_i h0
      have := low_less rest h0 h
      exact spare_fuel says f g _ _ (by omega) (by omega) (by omega)
theorem spare_step (says : Nat → Bool) (gone rest : Nat) (h0 : rest ≠ 0) (h : rest < 2 ^ 64) : spareP says (rest + 1) gone rest = spareP says ((rest &&& (rest - 1)) + 1) (if says (lessN gone (2 ^ Lib.ctz 64 rest)) then lessN gone (2 ^ Lib.ctz 64 rest) else gone) (rest &&& (rest - 1)) := by
  conv => lhs; unfold spareP
  rw [if_neg h0]
  have := low_less rest h0 h
  exact spare_fuel says _ _ _ _ (by omega) (by omega) (by omega)
def goneP (vs : List MVar) (s : Sto) : Nat := lessN (wholeP vs) (storedP vs s)
def leastP (vs : List MVar) (c : MCon) (s : Sto) (any : Cla) : Nat := spareP (fun g => saysP vs (pointsP vs c) (heldP vs any ||| g)) (goneP vs s + 1) (goneP vs s) (goneP vs s)
theorem bit_at (vs : List MVar) (hv : VarsOk vs) (f : Nat → Int → Bool) (v : Nat) (x : Int) (h : v < vs.length) (h1 : (varAt vs v).lo ≤ x) (h2 : x ≤ (varAt vs v).hi) : (ofP vs f).testBit (6 * v + (x - (varAt vs v).lo).toNat) = f v x := by
  have h3 := hv.2 v
  unfold sizeV at h3
  have e1 : (6 * v + (x - (varAt vs v).lo).toNat) / 6 = v := by omega
  have e2 : (6 * v + (x - (varAt vs v).lo).toNat) % 6 = (x - (varAt vs v).lo).toNat := by omega
  unfold ofP
  rw [testBit_of vs hv, e1, e2, show (varAt vs v).lo + (((x - (varAt vs v).lo).toNat : Nat) : Int) = x by omega]
  have e3 : (x - (varAt vs v).lo).toNat < sizeV (varAt vs v) := by unfold sizeV; omega
  simp [h, e3]
theorem mem_span_iff (lo hi x : Int) : x ∈ spanR lo hi ↔ lo ≤ x ∧ x ≤ hi := by
  refine ⟨fun h => ?_, fun h => mem_span lo hi x h.1 h.2⟩
  unfold spanR at h
  obtain ⟨k, hk, rfl⟩ := List.mem_map.1 h
  have := List.mem_range.1 hk
  omega
/-- Whatever is a point is one of values. -/
theorem points_back (vs : List MVar) (c : MCon) : ∀ (r u : List Int) (a p : Nat), (∀ v ∈ r, 0 ≤ v ∧ v < (vs.length : Int)) → u.length = vs.length → p ∈ pointsN vs c r u a →
    ∃ u' : List Int, u'.length = vs.length ∧ holdsC c u' = true ∧ (∀ v ∈ r, (varAt vs v.toNat).lo ≤ valAt u' v ∧ valAt u' v ≤ (varAt vs v.toNat).hi) ∧ (∀ w : Int, (∀ v ∈ r, v.toNat ≠ w.toNat) → valAt u' w = valAt u w) ∧
      (∀ i, a.testBit i = true → p.testBit i = true) ∧ ∀ v ∈ r, p.testBit (6 * v.toNat + (valAt u' v - (varAt vs v.toNat).lo).toNat) = true
  | [], u, a, p, _, hu, hp => by
    unfold pointsN at hp
    split at hp
    · rename_i hh
      rw [List.mem_singleton.1 hp]
      exact ⟨u, hu, hh, (fun v hv => by cases hv), (fun _ _ => rfl), (fun _ h => h), (fun v hv => by cases hv)⟩
    · cases hp
  | v :: r, u, a, p, hr, hu, hp => by
    unfold pointsN at hp
    obtain ⟨x, hx, hp⟩ := List.mem_flatMap.1 hp
    obtain ⟨h1, h2⟩ := (mem_span_iff _ _ _).1 hx
    obtain ⟨v0, v1⟩ := hr v (List.mem_cons_self ..)
    obtain ⟨u', l1, l2, l3, l4, l5, l6⟩ := points_back vs c r _ _ p (fun y hy => hr y (List.mem_cons_of_mem _ hy)) (by simpa using hu) hp
    have key : (∀ y ∈ r, y.toNat ≠ v.toNat) → valAt u' v = x := fun hq => by rw [l4 v hq, valAt_set_self _ _ _ (by omega)]
    have same : ∀ y ∈ r, y.toNat = v.toNat → y = v := fun y hy he => by
      have := hr y (List.mem_cons_of_mem _ hy)
      omega
    refine ⟨u', l1, l2, fun y hy => ?_, fun w hw => ?_, fun i hi => l5 i (by rw [Nat.testBit_or, hi]; rfl), fun y hy => ?_⟩
    · rcases List.mem_cons.1 hy with rfl | hy
      · by_cases hq : ∃ z ∈ r, z.toNat = y.toNat
        · obtain ⟨z, hz, he⟩ := hq
          rw [← same z hz he]; exact l3 z hz
        · rw [key fun z hz he => hq ⟨z, hz, he⟩]; exact ⟨h1, h2⟩
      · exact l3 y hy
    · rw [l4 w (fun y hy => hw y (List.mem_cons_of_mem _ hy)), valAt_set_ne _ _ _ _ (hw v (List.mem_cons_self ..))]
    · rcases List.mem_cons.1 hy with rfl | hy
      · by_cases hq : ∃ z ∈ r, z.toNat = y.toNat
        · obtain ⟨z, hz, he⟩ := hq
          rw [← same z hz he]; exact l6 z hz
        · rw [key fun z hz he => hq ⟨z, hz, he⟩]
          refine l5 _ ?_
          rw [Nat.testBit_or, testBit_pow]
          simp
      · exact l6 y hy
/-- A constraint says so, if none of its points stays. -/
theorem says_of (vs : List MVar) (c : MCon) (hsc : ∀ v ∈ scopeC c, 0 ≤ v ∧ v < (vs.length : Int)) (h : Nat)
    (hn : ∀ u : List Int, u.length = vs.length → holdsC c u = true → (∀ v ∈ scopeC c, (varAt vs v.toNat).lo ≤ valAt u v ∧ valAt u v ≤ (varAt vs v.toNat).hi) → ((scopeC c).length = 0 → u = zerosOf vs.length) →
      ∃ v ∈ scopeC c, h.testBit (6 * v.toNat + (valAt u v - (varAt vs v.toNat).lo).toNat) = true) : saysP vs (pointsP vs c) h = true := by
  unfold saysP
  have : (pointsP vs c).any (stayP h) = false := by
    cases hq : (pointsP vs c).any (stayP h)
    · rfl
    · obtain ⟨p, hp, hs⟩ := List.any_eq_true.1 hq
      obtain ⟨u, l1, l2, l3, l4, _, l6⟩ := points_back vs c _ _ _ p hsc (by simp [zerosOf]) hp
      obtain ⟨v, hv, hb⟩ := hn u l1 l2 l3 (fun h0 => by
        have he := List.eq_nil_of_length_eq_zero h0
        rw [he] at l4
        refine List.ext_getElem? fun i => ?_
        by_cases hi : i < vs.length
        · have := l4 (i : Int) (fun v hv => by cases hv)
          unfold valAt at this
          rw [Int.toNat_natCast, List.getD_eq_getElem?_getD, List.getD_eq_getElem?_getD, List.getElem?_eq_getElem (by omega), List.getElem?_eq_getElem (by simp [zerosOf]; exact hi)] at this
          rw [List.getElem?_eq_getElem (by omega), List.getElem?_eq_getElem (by simp [zerosOf]; exact hi)]
          exact congrArg some this
        · rw [List.getElem?_eq_none (by omega), List.getElem?_eq_none (by simp [zerosOf]; omega)])
      have h0 : p &&& h = 0 := by simpa [stayP] using hs
      have := congrArg (fun q => Nat.testBit q (6 * v.toNat + (valAt u v - (varAt vs v.toNat).lo).toNat)) h0
      simp only [Nat.testBit_and, l6 v hv, hb, Nat.zero_testBit] at this
      cases this
  rw [this]; simp
theorem gone_at (vs : List MVar) (hv : VarsOk vs) (s : Sto) (v : Nat) (x : Int) (h : v < vs.length) (h1 : (varAt vs v).lo ≤ x) (h2 : x ≤ (varAt vs v).hi) : (goneP vs s).testBit (6 * v + (x - (varAt vs v).lo).toNat) = !hasB (s.getD v []) x := by
  unfold goneP wholeP storedP
  rw [testBit_less, bit_at vs hv _ v x h h1 h2, bit_at vs hv _ v x h h1 h2]; rfl
/-- Where a constraint takes a value, it says so, if all that the store has not is held beside. -/
theorem says_removed (vs : List MVar) (hv : VarsOk vs) (c : MCon) (hsc : ∀ v ∈ scopeC c, 0 ≤ v ∧ v < (vs.length : Int)) (hl : c.kind = 10 → c.lits ≠ []) (s : Sto) (hs : s.length = vs.length) (k : Nat) (any : Cla) (zs : List Int)
    (hz : ∀ z ∈ zs, staysB c s k z = false) (hne : zs ≠ []) (hany : ∀ x, x ∈ s.getD k [] → oneB any k x = false → x ∈ zs) : saysP vs (pointsP vs c) (heldP vs any ||| goneP vs s) = true := by
  have hsc' : ∀ v ∈ scopeC c, 0 ≤ v ∧ v < (s.length : Int) := by rw [hs]; exact hsc
  have hz0 : ∃ z, staysB c s k z = false := by
    match zs, hne with
    | z :: _, _ => exact ⟨z, hz z (List.mem_cons_self ..)⟩
  obtain ⟨z0, hz0⟩ := hz0
  have hf : failedS s = false := by
    cases hf : failedS s
    · rfl
    · rw [stays_failed c s hf] at hz0; cases hz0
  refine says_of vs c hsc _ fun u h1 h2 h3 h4 => ?_
  apply Classical.byContradiction
  intro hno
  by_cases h0 : (scopeC c).length = 0
  · rw [stays_none c s hf h0, hs, ← h4 h0, h2] at hz0
    cases hz0
  · have hk : (k : Int) ∈ scopeC c := by
      apply Classical.byContradiction
      intro hk
      rw [stays_out c s h0 k z0 hk] at hz0
      cases hz0
    have hin : ∀ v ∈ scopeC c, valAt u v ∈ s.getD v.toNat [] ∧ oneB any v.toNat (valAt u v) = false := by
      intro v hvs
      have hr := hsc v hvs
      have hb := h3 v hvs
      cases hq : (heldP vs any ||| goneP vs s).testBit (6 * v.toNat + (valAt u v - (varAt vs v.toNat).lo).toNat)
      · rw [Nat.testBit_or, gone_at vs hv s v.toNat _ (by omega) hb.1 hb.2] at hq
        unfold heldP at hq
        rw [bit_at vs hv _ v.toNat _ (by omega) hb.1 hb.2] at hq
        rw [Bool.or_eq_false_iff] at hq
        refine ⟨(hasB_iff _ _).1 (by simpa using hq.2), hq.1⟩
      · exact absurd ⟨v, hvs, hq⟩ hno
    have hu := hin _ hk
    rw [Int.toNat_natCast] at hu
    have hst := hz _ (hany _ hu.1 hu.2)
    rw [stays_in c s hf k _ hk] at hst
    have : (metAll c s).contains ((k : Int), valAt u (k : Int)) = true := (met_iff c s hsc' hl k _ hk).2 ⟨u, by rw [hs]; exact h1, fun v hvs => (hin v hvs).1, h2, rfl⟩
    rw [this] at hst
    cases hst
theorem mem_bits (p i : Nat) (hi : i < 36) : i ∈ bitsL p ↔ p.testBit i = true := by
  unfold bitsL
  rw [List.mem_filter, List.mem_range]
  exact ⟨fun h => h.2, fun h => ⟨hi, h⟩⟩
/-- A part's literals hold where it is hit. -/
theorem lits_hold (vs : List MVar) (hv : VarsOk vs) (p : Nat) (vals : List Int) (hm : MayBe vs vals) (h : Hits vs vals p) : claB (litsP vs p) vals = true := by
  obtain ⟨v, hl, hb⟩ := h
  obtain ⟨p1, p2, p3⟩ := pos_parts vs hv vals hm v hl
  have h6 := hv.1
  have hi : posV vs vals v < 36 := by omega
  rw [claB_iff]
  refine ⟨_, List.mem_map.2 ⟨posV vs vals v, (mem_bits p _ hi).2 hb, rfl⟩, ?_⟩
  rw [p1, p3]
  unfold litV valAt
  simp
theorem lits_right (vs : List MVar) (hv : VarsOk vs) (hb : ∀ v : Nat, v < vs.length → -50 ≤ (varAt vs v).lo ∧ (varAt vs v).hi ≤ 50) (p : Nat) (hp : ∀ i, p.testBit i = true → (wholeP vs).testBit i = true) : ∀ l ∈ litsP vs p, litE vs l = 0 := by
  intro l hl
  obtain ⟨i, hi, rfl⟩ := List.mem_map.1 hl
  unfold bitsL at hi
  have h1 := hp i (List.mem_filter.1 hi).2
  unfold wholeP ofP at h1
  rw [testBit_of vs hv] at h1
  simp only [Bool.and_eq_true, decide_eq_true_eq] at h1
  have h2 := hb (i / 6) h1.1
  have h3 := h1.2.1
  unfold sizeV at h3
  unfold litE
  simp only
  rw [if_neg (by omega), if_neg (by omega), if_neg (by omega)]
theorem gone_whole (vs : List MVar) (s : Sto) (i : Nat) (h : (goneP vs s).testBit i = true) : (wholeP vs).testBit i = true := by
  unfold goneP at h
  rw [testBit_less, Bool.and_eq_true] at h
  exact h.1
/-- What Removed answers: a literal that stands anyway, and what can't be spared. -/
def notL (k : Nat) (z : Int) : MLit := ⟨(k : Int), 4, z⟩
def reasonP (vs : List MVar) (c : MCon) (s : Sto) (any : Cla) : Cla := any ++ litsP vs (leastP vs c s any)
theorem vars_bounds (m : Mod) (hm : checkM m = 0) (v : Nat) (h : v < m.vars.length) : -50 ≤ (varAt m.vars v).lo ∧ (varAt m.vars v).hi ≤ 50 := by
  have e : m.vars[v]? = some (varAt m.vars v) := by unfold varAt; rw [List.getD_eq_getElem?_getD, List.getElem?_eq_getElem h]; rfl
  have := var_ok m hm v _ e
  omega
theorem firstE_zero (l : List Int) (h : ∀ e ∈ l, e = 0) : firstE l = 0 := by
  induction l with
  | nil => rfl
  | cons a r ih =>
    unfold firstE
    rw [if_pos (h a (List.mem_cons_self ..))]
    exact ih fun e he => h e (List.mem_cons_of_mem _ he)
theorem reason_right (m : Mod) (hm : checkM m = 0) (c : MCon) (s : Sto) (any : Cla) (ha : any.length ≤ 1) (hr : ∀ l ∈ any, litE m.vars l = 0) : claE m.vars (reasonP m.vars c s any) = 0 := by
  have h1 := lits_len m.vars (leastP m.vars c s any)
  unfold claE
  rw [if_neg (by unfold reasonP; rw [List.length_append]; omega)]
  refine firstE_zero _ fun e he => ?_
  obtain ⟨l, hl, rfl⟩ := List.mem_map.1 he
  unfold reasonP at hl
  rcases List.mem_append.1 hl with h | h
  · exact hr l h
  · refine lits_right m.vars (vars_okP m hm) (vars_bounds m hm) _ (fun i hi => ?_) l h
    unfold leastP at hi
    exact gone_whole _ _ _ (spare_sub _ _ _ _ _ hi)
/-- A REASON HOLDS WHERE THE CONSTRAINT DOES. -/
theorem reason_holds (m : Mod) (hm : checkM m = 0) (j : Nat) (c : MCon) (hc : m.cons[j]? = some c) (s : Sto) (any : Cla) (hany : ∀ l ∈ any, litE m.vars l = 0) (hs : saysP m.vars (pointsP m.vars c) (heldP m.vars any ||| goneP m.vars s) = true)
    (vals : List Int) (hv : hasS (beginS m.vars) vals = true) (hh : holdsC c vals = true) : claB (reasonP m.vars c s any) vals = true := by
  have hok := vars_okP m hm
  have hmb := maybe_of m.vars vals hv
  obtain ⟨k1, k2⟩ := scope_in m hm j c hc
  have h1 : saysP m.vars (pointsP m.vars c) (heldP m.vars any ||| leastP m.vars c s any) = true := by
    unfold leastP
    exact spare_says (fun g => saysP m.vars (pointsP m.vars c) (heldP m.vars any ||| g)) _ _ _ hs
  obtain ⟨v, hvl, hb⟩ := says_hits m.vars hok c k1 k2 _ h1 vals hmb hh
  unfold reasonP claB
  rw [List.any_append, Bool.or_eq_true]
  rw [Nat.testBit_or, Bool.or_eq_true] at hb
  rcases hb with hb | hb
  · left
    exact (held_hits m.vars hok vals hmb any (fun l hl => by
      have := hany l hl
      unfold litE at this
      by_cases h0 : l.var < 0 ∨ (m.vars.length : Int) ≤ l.var
      · rw [if_pos h0] at this; cases this
      · omega)).1 ⟨v, hvl, hb⟩
  · right
    exact lits_hold m.vars hok _ vals hmb ⟨v, hvl, hb⟩
end Go.Proofs.YtijohkhpigjbkaeGreatDoor
/-
  WALKS: math/bits.TrailingZeros64 (the library's look-up); package fence: the field of the first variable that has values.
-/
namespace Go.Proofs.YtijohkhpigjbkaeGreatDoor
open Go.RowKit

/-- The library's table lies in its variable. -/
def TabT (w : World) : Prop := TabAt 0 Lib.deBruijn64tab w
theorem TabT.below {w w' : World} (h : TabT w) (hb : Below w.heap.size w w') : TabT w' := fun j hj => by
  have := h j hj
  exact (hb.cell (World.block_lt_of_cell? w _ this)).trans this

set_option maxHeartbeats 1000000 in
theorem tz64_some (x k idx : Nat) (w : World) (hx0 : ((x : Int) == 0) = false)
    (key : IntKind.u64.wrap (bits BinOp.and IntKind.u64 (x : Int) (IntKind.u64.wrap (-(x : Int))) * 285870213051353865) / 288230376151711744 = (idx : Int))
    (hi : idx < 64) (hk : k < 64) (hcell : w.cell? ⟨0, idx, none⟩ = some (.int .u8 k)) :
    Calls Tryz.prog 192 #[.int .u64 x] w fun e w' => e = .returned (.int .i64 k) ∧ w' = w := by
  go_enter Tryz.func192, Tryz.ntmps192
  go_wp2_with (simp only [key])
  go_ret
  exact ⟨rfl, rfl⟩
theorem tz64_none (w : World) : Calls Tryz.prog 192 #[.int .u64 0] w fun e w' => e = .returned (.int .i64 64) ∧ w' = w := by
  go_enter Tryz.func192, Tryz.ntmps192
  go_wp2
  go_ret
  exact ⟨rfl, rfl⟩
theorem tz64_any (x : Nat) (hx : x < 18446744073709551616) (w : World) (hT : TabT w) :
    Calls Tryz.prog 192 #[.int .u64 x] w fun e w' => e = .returned (.int .i64 (Lib.ctz 64 x)) ∧ w' = w := by
  by_cases hx0 : x = 0
  · subst hx0
    exact tz64_none w
  · obtain ⟨hlow, hk⟩ := Lib.lowest_bit 64 x hx0 hx
    obtain ⟨hi, htab⟩ := Lib.deBruijn64_at _ hk
    have hcell := hT _ hi
    rw [htab] at hcell
    exact tz64_some x _ _ w (by simp; omega) (tz64_key x _ hx hx0 hlow) hi hk hcell

theorem shl_63 (k : Nat) (hk : k < 8) : IntKind.u64.wrap (63 * 2 ^ (k * 6)) = ((63 * 2 ^ (6 * k) : Nat) : Int) := by
  rw [IntKind.wrap_u64, Nat.mul_comm k 6]
  have : (2 : Nat) ^ (6 * k) ≤ 2 ^ 42 := Nat.pow_le_pow_right (by omega) (by omega)
  have e : (63 : Int) * ((2 : Int) ^ (6 * k)) = ((63 * 2 ^ (6 * k) : Nat) : Int) := by simp
  rw [e]
  exact Int.emod_eq_of_lt (by omega) (by omega)
set_option maxHeartbeats 400000 in
theorem field_any (p : Nat) (h0 : p ≠ 0) (hp : p < 2 ^ 36) (w : World) (hT : TabT w) :
    Calls Tryz.prog 195 #[.int .u64 p] w fun e w' => e = .returned (.int .u64 ((fieldP p : Nat) : Int)) ∧ w' = w := by
  have HT : Hid (TabT w) := hT
  have hc := (bitsL_step p h0 hp).2
  obtain ⟨t, ht⟩ : ∃ t, Lib.ctz 64 p = t := ⟨_, rfl⟩
  have HC : Hid (Lib.ctz 64 p = t) := ht
  rw [ht] at hc
  have HF : Hid (fieldP p = 63 * 2 ^ (6 * (t / 6))) := by show _ = _; unfold fieldP; rw [ht]
  have hs := shl_63 (t / 6) (by omega)
  rw [HF.out]
  obtain ⟨q, hq⟩ : ∃ q, 63 * 2 ^ (6 * (t / 6)) = q := ⟨_, rfl⟩
  rw [hq] at hs ⊢
  have HP : Hid (p < 2 ^ 36) := hp
  clear hT ht hq hp h0
  go_enter Tryz.func195, Tryz.ntmps195
  go_wp2_with fail
  refine (tz64_any p (by have := HP.out; omega) _ HT.out).mono ?_
  rintro e w ⟨rfl, rfl⟩
  rw [HC.out]
  go_wp2
  go_ret
  exact ⟨ret_int hs, rfl⟩
end Go.Proofs.YtijohkhpigjbkaeGreatDoor
/-
  WALK: package fence: Units, Fails.
-/
namespace Go.Proofs.YtijohkhpigjbkaeGreatDoor
open Go.RowKit

theorem round_cons (cs : List Nat) (k c left : Nat) (h : cs[k]? = some c) : roundP (cs.drop k) left = if left &&& c = 0 then none
    else if lessN (left &&& c) (fieldP (left &&& c)) = 0 then roundP (cs.drop (k + 1)) (lessN left (lessN (fieldP (left &&& c)) (left &&& c))) else roundP (cs.drop (k + 1)) left := by
  have hk : k < cs.length := (List.getElem?_eq_some_iff.1 h).1
  have hc : cs[k] = c := by rw [List.getElem?_eq_getElem hk] at h; exact Option.some.inj h
  rw [List.drop_eq_getElem_cons hk, hc]
  rfl
theorem field_lt (p : Nat) (h0 : p ≠ 0) (h : p < 2 ^ 36) : fieldP p < 2 ^ 36 := by
  have h1 := (bitsL_step p h0 h).2
  unfold fieldP
  have h2 : 2 ^ (6 * (Lib.ctz 64 p / 6)) ≤ 2 ^ 30 := Nat.pow_le_pow_right (by omega) (by omega)
  omega
theorem and_lt36 {a b : Nat} (ha : a < 2 ^ 36) : a &&& b < 2 ^ 36 := Nat.lt_of_le_of_lt Nat.and_le_left ha

theorem ret_u64 {a b : Nat} (h : a = b) : Ending.returned (.int .u64 (a : Int)) = Ending.returned (.int .u64 (b : Int)) := by rw [h]

set_option maxHeartbeats 1600000 in
set_option maxRecDepth 100000 in
theorem units_any (vs : List MVar) (h6 : vs.length ≤ 6) (hn1 : 1 ≤ vs.length) (cs : List Nat) (r : Nat) (hr36 : r < 2 ^ 36) (sv pv : Value) (w : World) (hv : VArg w sv vs) (hp : PArg w pv cs) (hT : TabT w) :
    Calls Tryz.prog 151 #[sv, pv, .int .u64 r] w fun e w' => e = .returned (.int .u64 ((unitsP vs cs r : Nat) : Int)) ∧ w' = w := by
  have HV : Hid (VArg w sv vs) := hv
  have HT : Hid (TabT w) := hT
  have H6 : Hid (vs.length ≤ 6) := h6
  have HR36 : Hid (r < 2 ^ 36) := hr36
  obtain ⟨R, hR⟩ : ∃ R, unitsP vs cs r = R := ⟨_, rfl⟩
  have HS : Hid (R = if lackP vs.length r then 0 else unitsN cs (r + 1) r) := by show _ = _; rw [← hR]; rfl
  rw [hR]
  have HR0 : Hid (lackP vs.length r = false → r ≠ 0) := fun h0 h1 => by
    rw [lack_hit vs.length r 0 (by omega) (by rw [h1]; rfl)] at h0; cases h0
  obtain ⟨a, c, rfl, _, _⟩ := hv
  obtain ⟨a2, c2, rfl, hm, hrp⟩ := hp
  have HP : Hid (∀ (i z : Nat), cs[i]? = some z → z < 2 ^ 36 ∧ ∃ b off, a2 = some ⟨b, off, none⟩ ∧ b < w.heap.size ∧ w.cell? ⟨b, off + i, none⟩ = some (.int .u64 z)) := hrp
  unfold maxLen at hm
  obtain ⟨hm1, hm⟩ := hm
  clear hT hR hrp hn1 h6 hr36
  go_enter Tryz.func151, Tryz.ntmps151
  go_wp2_with fail
  refine (lacking_any vs H6.out r HR36.out _ _ HV.out).mono ?_
  rintro e w ⟨rfl, rfl⟩
  obtain ⟨L, hL⟩ : ∃ L, lackP vs.length r = L := ⟨_, rfl⟩
  rw [hL] at HS HR0 ⊢
  clear hL
  cases L
  · have HS2 : Hid (R = unitsN cs (r + 1) r) := HS.out
    have HN0 : Hid (r ≠ 0) := HR0.out rfl
    clear HS HR0
    go_wp2_with fail
    go_loopw [7, 8] (fun l b wr => ∃ bb ll : Nat, l = .int .u64 (ll : Int) ∧ b = .int .u64 (bb : Int) ∧ Hid (ll < 2 ^ 36) ∧ Hid (if bb = ll then R = ll else R = unitsN cs (ll + 1) ll) ∧ wr = w) (fun l b _ => if intOf b = intOf l then 0 else (intOf l).toNat + 1)
    case atStart => exact ⟨0, r, rfl, rfl, HR36, by show (if _ then _ else _); rw [if_neg (fun h => HN0.out h.symm)]; exact HS2.out, rfl⟩
    case round =>
      obtain ⟨bb, ll, rfl, rfl, hl36, hst, rfl⟩ := hrel
      by_cases hbl : bb = ll
      · have HN : Hid (R = ll) := by have := hst.out; rw [if_pos hbl] at this; exact this
        have hne : ((bb : Int) != (ll : Int)) = false := by simp [hbl]
        clear hst hbl
        go_wp2
        go_ret
        exact ⟨ret_u64 HN.out.symm, rfl⟩
      · have HN : Hid (R = unitsN cs (ll + 1) ll) := by have := hst.out; rw [if_neg hbl] at this; exact this
        have HU : Hid (R = match roundP cs ll with
            | none => 0
            | some l => if l = ll then ll else unitsN cs (l + 1) l) := by show _ = _; rw [HN.out]; exact units_step cs ll
        have HBL : Hid (bb ≠ ll) := hbl
        have hne : ((bb : Int) != (ll : Int)) = true := by simp; omega
        clear hst hbl
        go_wp2_with fail
        clear hne
        go_loopw [7, 23] (fun l i wx => ∃ k l2 : Nat, k ≤ cs.length ∧ i = .int .i64 k ∧ l = .int .u64 (l2 : Int) ∧ Hid (l2 < 2 ^ 36) ∧ Hid (roundP cs ll = roundP (cs.drop k) l2) ∧ wx = wr) (fun _ i _ => cs.length - (intOf i).toNat)
        case atStart => exact ⟨0, ll, by omega, rfl, rfl, hl36, rfl, rfl⟩
        case round =>
          obtain ⟨k, l2, hk, rfl, rfl, hl2, hrd, rfl⟩ := hrel
          by_cases hlt : k < cs.length
          · obtain ⟨z, hz⟩ : ∃ z, cs[k]? = some z := ⟨cs[k], by simp [hlt]⟩
            obtain ⟨hz36, b, off, ha, hb, hc⟩ := HP.out k z hz
            subst ha
            have HZ : Hid (cs[k]? = some z) := hz
            have HRC : Hid (roundP (cs.drop k) l2 = if l2 &&& z = 0 then none
              else if lessN (l2 &&& z) (fieldP (l2 &&& z)) = 0 then roundP (cs.drop (k + 1)) (lessN l2 (lessN (fieldP (l2 &&& z)) (l2 &&& z))) else roundP (cs.drop (k + 1)) l2) := round_cons cs k z l2 hz
            have hand := bits_and_u64_nat l2 z (by have := hl2.out; omega) (by omega)
            obtain ⟨o, ho⟩ : ∃ o, l2 &&& z = o := ⟨_, rfl⟩
            have HO36 : Hid (o < 2 ^ 36) := by rw [← ho]; exact and_lt36 hl2.out
            rw [ho] at hand HRC
            clear hz hz36 ho
            by_cases ho0 : o = 0
            · have HE : Hid (R = 0) := by show _ = _; rw [HU.out, hrd.out, HRC.out, if_pos ho0]
              subst ho0
              clear hrd hl2
              go_wp2
              go_ret
              exact ⟨ret_u64 HE.out.symm, rfl⟩
            · have HRC2 : Hid (roundP (cs.drop k) l2 = if lessN o (fieldP o) = 0 then roundP (cs.drop (k + 1)) (lessN l2 (lessN (fieldP o) o)) else roundP (cs.drop (k + 1)) l2) := by show _ = _; rw [HRC.out, if_neg ho0]
              have HO0 : Hid (o ≠ 0) := ho0
              have ho1 : ((o : Int) == 0) = false := by simpa using ho0
              obtain ⟨f, hf⟩ : ∃ f, fieldP o = f := ⟨_, rfl⟩
              have HF36 : Hid (f < 2 ^ 36) := by rw [← hf]; exact field_lt o ho0 HO36.out
              have hnt := bits_andNot_u64 o f (by have := HO36.out; omega) (by have := HF36.out; omega)
              have HF : Hid (fieldP o = f) := hf
              rw [hf] at HRC2
              obtain ⟨g, hg⟩ : ∃ g, lessN o f = g := ⟨_, rfl⟩
              rw [hg] at hnt HRC2
              clear ho0 hf hg HRC
              by_cases hg0 : g = 0
              · have hn2 := bits_andNot_u64 f o (by have := HF36.out; omega) (by have := HO36.out; omega)
                obtain ⟨t, ht⟩ : ∃ t, lessN f o = t := ⟨_, rfl⟩
                have HT36 : Hid (t < 2 ^ 36) := by rw [← ht]; exact less_lt 36 _ _ HF36.out
                have hn3 := bits_andNot_u64 l2 t (by have := hl2.out; omega) (by have := HT36.out; omega)
                obtain ⟨l3, hl3⟩ : ∃ l3, lessN l2 t = l3 := ⟨_, rfl⟩
                have HL36 : Hid (l3 < 2 ^ 36) := by rw [← hl3]; exact less_lt 36 _ _ hl2.out
                have HE : Hid (roundP cs ll = roundP (cs.drop (k + 1)) l3) := by show _ = _; rw [hrd.out, HRC2.out, if_pos hg0, ht, hl3]
                rw [ht] at hn2
                rw [hl3] at hn3
                subst hg0
                clear hrd ht hl3 HRC2 hl2
                go_wp2_with fail
                refine (field_any o HO0.out HO36.out _ HT.out).mono ?_
                rintro e w ⟨rfl, rfl⟩
                rw [HF.out]
                go_wp2
                go_roundw
                case rel => exact ⟨k + 1, l3, by omega, by go_num, rfl, HL36, HE, trivial⟩
                case measure => simp [intOf]; omega
              · have HE : Hid (roundP cs ll = roundP (cs.drop (k + 1)) l2) := by show _ = _; rw [hrd.out, HRC2.out, if_neg hg0]
                have hg1 : ((g : Int) == 0) = false := by simpa using hg0
                clear hrd hg0 HRC2
                go_wp2_with fail
                refine (field_any o HO0.out HO36.out _ HT.out).mono ?_
                rintro e w ⟨rfl, rfl⟩
                rw [HF.out]
                go_wp2
                go_roundw
                case rel => exact ⟨k + 1, l2, by omega, by go_num, rfl, hl2, HE, trivial⟩
                case measure => simp [intOf]; omega
          · have hke : k = cs.length := by omega
            have HE : Hid (roundP cs ll = some l2) := by show _ = _; rw [hrd.out, hke, List.drop_length]; rfl
            have HLE : Hid (l2 ≤ ll) := round_le cs ll l2 HE.out
            have HU2 : Hid (if ll = l2 then R = l2 else R = unitsN cs (l2 + 1) l2) := by
              show (if _ then _ else _)
              have := HU.out
              rw [HE.out] at this
              simp only at this
              by_cases hq : ll = l2
              · rw [if_pos hq]; rw [if_pos hq.symm] at this; rw [this]; exact hq
              · rw [if_neg hq]; rw [if_neg (fun h => hq h.symm)] at this; exact this
            have HM : Hid ((if (ll : Int) = (l2 : Int) then 0 else (l2 : Int).toNat + 1) < (if (bb : Int) = (ll : Int) then 0 else (ll : Int).toNat + 1)) := by
              show _ < _
              have h1 := HBL.out
              have h2 := HLE.out
              have e : (if (bb : Int) = (ll : Int) then 0 else (ll : Int).toNat + 1) = (ll : Int).toNat + 1 := if_neg (by omega)
              rw [e]
              split <;> omega
            clear hrd hke
            go_wp2
            go_roundw
            case rel => exact ⟨ll, l2, rfl, rfl, hl2, HU2, trivial⟩
            case measure => exact HM.out
  · have HN : Hid (R = 0) := HS.out
    go_wp2
    go_ret
    exact ⟨ret_u64 HN.out.symm, rfl⟩

set_option maxHeartbeats 800000 in
set_option maxRecDepth 100000 in
theorem fails_any (vs : List MVar) (hva : VarsAll vs) (hn1 : 1 ≤ vs.length) (cs : List Nat) (h : Nat) (hh : h < 2 ^ 36) (sv pv : Value) (w : World) (hv : VArg w sv vs) (hp : PArg w pv cs) (hT : TabT w) :
    Calls Tryz.prog 89 #[sv, pv, .int .u64 h] w fun e w' => e = .returned (.bool (failsP vs cs h)) ∧ Below w.heap.size w w' := by
  have HV : Hid (∀ w', Below w.heap.size w w' → VArg w' sv vs) := fun w' h => VArg.below h hv
  have HP : Hid (∀ w', Below w.heap.size w w' → PArg w' pv cs) := fun w' h => PArg.below h hp
  have HT : Hid (∀ w', Below w.heap.size w w' → TabT w') := fun w' h => hT.below h
  have HVO : Hid (VarsAll vs) := hva
  have H6 : Hid (vs.length ≤ 6) := hva.1.1
  have H1 : Hid (1 ≤ vs.length) := hn1
  have HW36 : Hid (wholeP vs < 2 ^ 36) := of_lt vs hva.1 _
  obtain ⟨q, hq⟩ : ∃ q, wholeP vs = q := ⟨_, rfl⟩
  obtain ⟨r, hr⟩ : ∃ r, lessN (wholeP vs) h = r := ⟨_, rfl⟩
  have HR36 : Hid (r < 2 ^ 36) := by rw [← hr]; exact less_lt 36 _ _ HW36.out
  have hbits := bits_andNot_u64 (wholeP vs) h (by have := HW36.out; omega) (by omega)
  rw [hr, hq] at hbits
  have HQ : Hid (wholeP vs = q) := hq
  obtain ⟨R, hR⟩ : ∃ R, failsP vs cs h = R := ⟨_, rfl⟩
  have HS : Hid (R = (((unitsP vs cs r : Nat) : Int) == 0)) := by
    show _ = _
    rw [← hR]; unfold failsP; rw [hr]
    by_cases h0 : unitsP vs cs r = 0
    · rw [h0]; rfl
    · have h1 : (((unitsP vs cs r : Nat) : Int) == 0) = false := by simpa using h0
      rw [h1]; simpa using h0
  rw [hR]
  obtain ⟨a, c, rfl, _, _⟩ := hv
  obtain ⟨a2, c2, rfl, _, _⟩ := hp
  clear hva hh hq hr hT hR hn1
  go_enter Tryz.func89, Tryz.ntmps89
  go_wp2_with fail
  refine (whole_any vs HVO.out _ _ (HV.out _ (Below.refl _ _))).mono ?_
  rintro e w1 ⟨rfl, hb1⟩
  rw [HQ.out]
  have HB1 : Hid (Below w.heap.size w w1) := hb1
  clear hb1
  go_wp2_with fail
  refine (units_any vs H6.out H1.out cs r HR36.out _ _ _ (HV.out _ HB1.out) (HP.out _ HB1.out) (HT.out _ HB1.out)).mono ?_
  rintro e w1 ⟨rfl, rfl⟩
  obtain ⟨U, hU⟩ : ∃ U : Int, ((unitsP vs cs r : Nat) : Int) = U := ⟨_, rfl⟩
  rw [hU] at HS ⊢
  clear hU
  go_wp2
  go_ret
  exact ⟨ret_bool HS.out.symm, HB1.out⟩
end Go.Proofs.YtijohkhpigjbkaeGreatDoor
/-
  PLAIN: what one constraint leaves of values, what all rules leave till nothing changes, who is told of it; the least of a list that is enough; reasons and steps.
-/
namespace Go.Proofs.YtijohkhpigjbkaeGreatDoor

/-- Which points are of some values: the last one, all together, is there one? -/
def leftF (p : Nat) : List Nat → Nat × Nat × Bool → Nat × Nat × Bool
  | [], s => s
  | q :: r, s => leftF p r (if lessN q p = 0 then (q, s.2.1 ||| q, true) else s)
/-- Values without the fields of some. -/
def clrN : Nat → Nat → Nat → Nat
  | 0, _, p => p
  | f + 1, s, p => if s = 0 then p else clrN f (lessN s (fieldP s)) (lessN p (fieldP s))
def leftP (pts : List Nat) (p : Nat) : Nat :=
  if (leftF p pts (0, 0, false)).2.2 then clrN ((leftF p pts (0, 0, false)).1 + 1) (leftF p pts (0, 0, false)).1 p ||| (leftF p pts (0, 0, false)).2.1 else 0

theorem less_zero (q p : Nat) : lessN q p = 0 ↔ ∀ i, q.testBit i = true → p.testBit i = true := by
  constructor
  · intro h i hi
    have := congrArg (fun z => Nat.testBit z i) h
    simp only [testBit_less, hi, Nat.zero_testBit] at this
    simpa using this
  · intro h
    apply Nat.eq_of_testBit_eq
    intro i
    rw [testBit_less, Nat.zero_testBit]
    cases hq : q.testBit i
    · rfl
    · rw [h i hq]; rfl
theorem leftF_found (p : Nat) : ∀ (pts : List Nat) (s : Nat × Nat × Bool), (leftF p pts s).2.2 = true ↔ s.2.2 = true ∨ ∃ q ∈ pts, lessN q p = 0
  | [], s => by simp [leftF]
  | q :: r, s => by
    unfold leftF
    rw [leftF_found p r]
    by_cases h : lessN q p = 0
    · rw [if_pos h]
      simp [h]
    · rw [if_neg h]
      simp [h]
theorem leftF_stay (p : Nat) (i : Nat) : ∀ (pts : List Nat) (s : Nat × Nat × Bool), (leftF p pts s).2.1.testBit i = true ↔ s.2.1.testBit i = true ∨ ∃ q ∈ pts, lessN q p = 0 ∧ q.testBit i = true
  | [], s => by simp [leftF]
  | q :: r, s => by
    unfold leftF
    rw [leftF_stay p i r]
    by_cases h : lessN q p = 0
    · rw [if_pos h]
      simp only [Nat.testBit_or, Bool.or_eq_true, List.mem_cons, exists_eq_or_imp, h, true_and, or_assoc]
    · rw [if_neg h]
      simp [h]
theorem leftF_scope (p : Nat) : ∀ (pts : List Nat) (s : Nat × Nat × Bool), (leftF p pts s).1 = s.1 ∨ (leftF p pts s).1 ∈ pts ∧ lessN (leftF p pts s).1 p = 0
  | [], s => Or.inl rfl
  | q :: r, s => by
    unfold leftF
    rcases leftF_scope p r (if lessN q p = 0 then (q, s.2.1 ||| q, true) else s) with h | h
    · by_cases hq : lessN q p = 0
      · right
        rw [h, if_pos hq]
        exact ⟨List.mem_cons_self .., hq⟩
      · left
        rw [h, if_neg hq]
    · exact Or.inr ⟨List.mem_cons_of_mem _ h.1, h.2⟩
theorem field_testBit (s i : Nat) : (fieldP s).testBit i = decide (i / 6 = Lib.ctz 64 s / 6) := testBit_six _ _
theorem less_field_lt (s : Nat) (h0 : s ≠ 0) (h : s < 2 ^ 36) : lessN s (fieldP s) < s := by
  have hb := (low_bits s h0 (by omega) (Lib.ctz 64 s)).2.1 rfl
  have h1 := less_le s (fieldP s)
  have h2 : lessN s (fieldP s) ≠ s := fun he => by
    have := congrArg (fun z => Nat.testBit z (Lib.ctz 64 s)) he
    simp only [testBit_less, field_testBit, hb] at this
    simp at this
  omega
theorem clr_fuel : ∀ (f g s p : Nat), s < f → s < g → s < 2 ^ 36 → clrN f s p = clrN g s p
  | 0, g, s, p, hf, hg, _ => by omega
  | f + 1, 0, s, p, hf, hg, _ => by omega
  | f + 1, g + 1, s, p, hf, hg, h => by
    unfold clrN
    split
    · rfl
    · rename_i h0
      have := less_field_lt s h0 h
      exact clr_fuel f g _ _ (by omega) (by omega) (by omega)
theorem clr_step (s p : Nat) (h0 : s ≠ 0) (h : s < 2 ^ 36) : clrN (s + 1) s p = clrN (lessN s (fieldP s) + 1) (lessN s (fieldP s)) (lessN p (fieldP s)) := by
  conv => lhs; unfold clrN
  rw [if_neg h0]
  have := less_field_lt s h0 h
  exact clr_fuel _ _ _ _ (by omega) (by omega) (by omega)
theorem clr_bit (i : Nat) : ∀ (f s p : Nat), s < f → s < 2 ^ 36 → ((clrN f s p).testBit i = true ↔ p.testBit i = true ∧ ∀ j, s.testBit j = true → j / 6 ≠ i / 6)
  | 0, s, p, hf, _ => by omega
  | f + 1, s, p, hf, h => by
    unfold clrN
    by_cases h0 : s = 0
    · rw [if_pos h0, h0]
      simp
    · rw [if_neg h0]
      have hlt := less_field_lt s h0 h
      have hb := (low_bits s h0 (by omega) (Lib.ctz 64 s)).2.1 rfl
      rw [clr_bit i f _ _ (by omega) (by omega)]
      simp only [testBit_less, field_testBit, Bool.and_eq_true, Bool.not_eq_true', decide_eq_false_iff_not]
      constructor
      · rintro ⟨⟨h1, h2⟩, h3⟩
        refine ⟨h1, fun j hj he => ?_⟩
        by_cases hk : j / 6 = Lib.ctz 64 s / 6
        · omega
        · exact h3 j ⟨hj, hk⟩ he
      · rintro ⟨h1, h2⟩
        refine ⟨⟨h1, fun he => h2 _ hb he.symm⟩, fun j hj he => h2 j hj.1 he⟩
theorem left_bit (pts : List Nat) (p i : Nat) (hp : p < 2 ^ 36) (h : (leftP pts p).testBit i = true) : p.testBit i = true := by
  unfold leftP at h
  split at h
  · rw [Nat.testBit_or, Bool.or_eq_true] at h
    rcases h with h | h
    · have hs : (leftF p pts (0, 0, false)).1 < 2 ^ 36 := by
        rcases leftF_scope p pts (0, 0, false) with h1 | h1
        · rw [h1]; decide
        · exact Nat.lt_of_le_of_lt (Nat.le_of_testBit ((less_zero _ _).1 h1.2)) hp
      exact ((clr_bit i _ _ p (Nat.lt_succ_self _) hs).1 h).1
    · rcases (leftF_stay p i pts _).1 h with h1 | ⟨q, _, h1, h2⟩
      · simp at h1
      · exact (less_zero _ _).1 h1 i h2
  · simp at h
theorem left_le (pts : List Nat) (p : Nat) (hp : p < 2 ^ 36) : leftP pts p ≤ p := Nat.le_of_testBit fun i h => left_bit pts p i hp h
theorem left_scope_lt (pts : List Nat) (p : Nat) (hp : p < 2 ^ 36) : (leftF p pts (0, 0, false)).1 < 2 ^ 36 := by
  rcases leftF_scope p pts (0, 0, false) with h1 | h1
  · rw [h1]; decide
  · exact Nat.lt_of_le_of_lt (Nat.le_of_testBit ((less_zero _ _).1 h1.2)) hp

theorem round_bit (i : Nat) : ∀ (cs : List Nat) (left l : Nat), roundP cs left = some l → l.testBit i = true → left.testBit i = true
  | [], left, l, h, hi => by simp [roundP] at h; rw [h]; exact hi
  | c :: r, left, l, h, hi => by
    unfold roundP at h
    split at h
    · cases h
    · split at h
      · have := round_bit i r _ l h hi
        rw [testBit_less, Bool.and_eq_true] at this
        exact this.1
      · exact round_bit i r _ l h hi
theorem unitsN_bit (cs : List Nat) (i : Nat) : ∀ (f left : Nat), (unitsN cs f left).testBit i = true → left.testBit i = true
  | 0, left, h => h
  | f + 1, left, h => by
    unfold unitsN at h
    cases hr : roundP cs left with
    | none => rw [hr] at h; simp at h
    | some l =>
      rw [hr] at h
      simp only at h
      split at h
      · exact h
      · exact round_bit i cs left l hr (unitsN_bit cs i f l h)
theorem units_bit (vs : List MVar) (cs : List Nat) (p i : Nat) (h : (unitsP vs cs p).testBit i = true) : p.testBit i = true := by
  unfold unitsP at h
  split at h
  · simp at h
  · exact unitsN_bit cs i _ _ h

/-- Points are of a constraint's variables alone. -/
theorem points_scope (vs : List MVar) (hv : VarsOk vs) (c : MCon) : ∀ (r u : List Int) (a p : Nat), p ∈ pointsN vs c r u a → ∀ i, p.testBit i = true → a.testBit i = true ∨ ∃ v ∈ r, i / 6 = v.toNat
  | [], u, a, p, hp => by
    intro i hi
    unfold pointsN at hp
    split at hp
    · rw [List.mem_singleton.1 hp] at hi; exact Or.inl hi
    · cases hp
  | v :: r, u, a, p, hp => by
    intro i hi
    unfold pointsN at hp
    obtain ⟨x, hx, hp⟩ := List.mem_flatMap.1 hp
    rcases points_scope vs hv c r _ _ p hp i hi with h | ⟨w, hw, he⟩
    · rw [Nat.testBit_or, Bool.or_eq_true, testBit_pow] at h
      rcases h with h | h
      · exact Or.inl h
      · right
        refine ⟨v, List.mem_cons_self .., ?_⟩
        have h1 : 6 * v.toNat + (x - (varAt vs v.toNat).lo).toNat = i := by simpa using h
        obtain ⟨b1, b2⟩ := (mem_span_iff _ _ _).1 hx
        have h6 := hv.2 v.toNat
        unfold sizeV at h6
        omega
    · exact Or.inr ⟨w, List.mem_cons_of_mem _ hw, he⟩
/-- The point of values. -/
theorem point_of (vs : List MVar) (hv : VarsOk vs) (c : MCon) (hsc : ∀ v ∈ scopeC c, 0 ≤ v ∧ v < (vs.length : Int)) (hl : c.kind = 10 → c.lits ≠ []) (vals : List Int) (hm : MayBe vs vals) (hh : holdsC c vals = true) :
    ∃ p ∈ pointsP vs c, (∀ i, p.testBit i = true → ∃ v : Nat, v < vs.length ∧ i = posV vs vals v) ∧ ∀ v ∈ scopeC c, p.testBit (posV vs vals v.toNat) = true := by
  obtain ⟨p, hp, hb⟩ := points_have vs c vals hm (scopeC c) (zerosOf vs.length) 0 hsc (by simp [zerosOf]) (fun u' _ h2 _ => by rw [holds_scope c u' vals h2 hl]; exact hh)
  have hb' : ∀ i, p.testBit i = true → ∃ v : Nat, v < vs.length ∧ i = posV vs vals v := fun i hi => by
    rcases hb i hi with h | h
    · simp at h
    · exact h
  refine ⟨p, hp, hb', fun v hvs => ?_⟩
  obtain ⟨u, l1, l2, l3, l4, _, l6⟩ := points_back vs c _ _ _ p hsc (by simp [zerosOf]) hp
  have h1 := l6 v hvs
  obtain ⟨v', hv', he⟩ := hb' _ h1
  have h6 := hv.2 v.toNat
  have h3 := l3 v hvs
  have h7 := (pos_parts vs hv vals hm v' hv').1
  have h8 := hsc v hvs
  unfold sizeV at h6
  have : v' = v.toNat := by omega
  rw [he, this] at h1
  exact h1
/-- NO VALUES OF WHICH THE CONSTRAINT HOLDS ARE LOST. -/
theorem left_keeps (vs : List MVar) (hv : VarsOk vs) (c : MCon) (hsc : ∀ v ∈ scopeC c, 0 ≤ v ∧ v < (vs.length : Int)) (hl : c.kind = 10 → c.lits ≠ []) (vals : List Int) (hm : MayBe vs vals) (hh : holdsC c vals = true) (p : Nat) (hp36 : p < 2 ^ 36) (hw : Within vs vals p) :
    Within vs vals (leftP (pointsP vs c) p) := by
  obtain ⟨q, hq, h1, h2⟩ := point_of vs hv c hsc hl vals hm hh
  have hz : lessN q p = 0 := (less_zero _ _).2 fun i hi => by
    obtain ⟨v, hvl, rfl⟩ := h1 i hi
    exact hw v hvl
  have hf := (leftF_found p (pointsP vs c) (0, 0, false)).2 (Or.inr ⟨q, hq, hz⟩)
  intro v hvl
  unfold leftP
  rw [if_pos hf, Nat.testBit_or, Bool.or_eq_true]
  by_cases hs : (v : Int) ∈ scopeC c
  · right
    refine (leftF_stay p _ _ _).2 (Or.inr ⟨q, hq, hz, ?_⟩)
    have := h2 _ hs
    rwa [Int.toNat_natCast] at this
  · left
    refine (clr_bit _ _ _ _ (Nat.lt_succ_self _) (left_scope_lt _ _ hp36)).2 ⟨hw v hvl, fun j hj he => ?_⟩
    rw [(pos_parts vs hv vals hm v hvl).1] at he
    rcases leftF_scope p (pointsP vs c) (0, 0, false) with h3 | h3
    · rw [h3] at hj; simp at hj
    · rcases points_scope vs hv c _ _ _ _ h3.1 j hj with h4 | ⟨w, hw2, h4⟩
      · simp at h4
      · have := hsc w hw2
        refine hs ?_
        rw [show (v : Int) = w by omega]
        exact hw2

/-- What all constraints leave, one after the other, while something is left. -/
def consN : List (List Nat) → Nat → Nat
  | [], l => l
  | pts :: r, l => if l = 0 then l else consN r (leftP pts l)
/-- Who is told: which constraint, of what was there ahead, of what it leaves. -/
def consT : Nat → List (List Nat) → Nat → List (Nat × Nat × Nat)
  | _, [], _ => []
  | k, pts :: r, l => if l = 0 then [] else (if leftP pts l = l then [] else [(k, l, leftP pts l)]) ++ consT (k + 1) r (leftP pts l)
def narrowN (vs : List MVar) (cs : List Nat) (pt : List (List Nat)) : Nat → Nat → Nat
  | 0, l => l
  | f + 1, l => if consN pt (unitsP vs cs l) = l then l else narrowN vs cs pt f (consN pt (unitsP vs cs l))
def narrowT (vs : List MVar) (cs : List Nat) (pt : List (List Nat)) : Nat → Nat → List (Nat × Nat × Nat)
  | 0, _ => []
  | f + 1, l => consT 0 pt (unitsP vs cs l) ++ if consN pt (unitsP vs cs l) = l then [] else narrowT vs cs pt f (consN pt (unitsP vs cs l))
/-- What all rules leave of the values that are not held. -/
def narrowP (vs : List MVar) (cs : List Nat) (pt : List (List Nat)) (h : Nat) : Nat :=
  if lessN (wholeP vs) h = 0 then 0 else narrowN vs cs pt (lessN (wholeP vs) h + 1) (lessN (wholeP vs) h)
def tellsP (vs : List MVar) (cs : List Nat) (pt : List (List Nat)) (h : Nat) : List (Nat × Nat × Nat) :=
  if lessN (wholeP vs) h = 0 then [] else narrowT vs cs pt (lessN (wholeP vs) h + 1) (lessN (wholeP vs) h)

theorem consN_le : ∀ (pt : List (List Nat)) (l : Nat), l < 2 ^ 36 → consN pt l ≤ l
  | [], l, _ => Nat.le_refl _
  | pts :: r, l, h => by
    unfold consN
    split
    · exact Nat.le_refl _
    · have h1 := left_le pts l h
      exact Nat.le_trans (consN_le r _ (by omega)) h1
theorem narrow_le (vs : List MVar) (cs : List Nat) (pt : List (List Nat)) (l : Nat) (h : l < 2 ^ 36) : consN pt (unitsP vs cs l) ≤ l := by
  have h1 := units_le vs cs l
  exact Nat.le_trans (consN_le pt _ (by omega)) h1
theorem narrow_fuel (vs : List MVar) (cs : List Nat) (pt : List (List Nat)) : ∀ (f g l : Nat), l < f → l < g → l < 2 ^ 36 → narrowN vs cs pt f l = narrowN vs cs pt g l ∧ narrowT vs cs pt f l = narrowT vs cs pt g l
  | 0, g, l, hf, hg, _ => by omega
  | f + 1, 0, l, hf, hg, _ => by omega
  | f + 1, g + 1, l, hf, hg, h => by
    unfold narrowN narrowT
    split
    · exact ⟨rfl, rfl⟩
    · have := narrow_le vs cs pt l h
      obtain ⟨h1, h2⟩ := narrow_fuel vs cs pt f g (consN pt (unitsP vs cs l)) (by omega) (by omega) (by omega)
      exact ⟨h1, by rw [h2]⟩
theorem narrow_step (vs : List MVar) (cs : List Nat) (pt : List (List Nat)) (l : Nat) (h : l < 2 ^ 36) :
    narrowN vs cs pt (l + 1) l = (if consN pt (unitsP vs cs l) = l then l else narrowN vs cs pt (consN pt (unitsP vs cs l) + 1) (consN pt (unitsP vs cs l))) ∧
    narrowT vs cs pt (l + 1) l = consT 0 pt (unitsP vs cs l) ++ if consN pt (unitsP vs cs l) = l then [] else narrowT vs cs pt (consN pt (unitsP vs cs l) + 1) (consN pt (unitsP vs cs l)) := by
  by_cases he : consN pt (unitsP vs cs l) = l
  · constructor
    · conv => lhs; unfold narrowN
      rw [if_pos he, if_pos he]
    · conv => lhs; unfold narrowT
      rw [if_pos he, if_pos he]
  · have := narrow_le vs cs pt l h
    obtain ⟨h1, h2⟩ := narrow_fuel vs cs pt l (consN pt (unitsP vs cs l) + 1) (consN pt (unitsP vs cs l)) (by omega) (by omega) (by omega)
    constructor
    · conv => lhs; unfold narrowN
      rw [if_neg he, if_neg he, h1]
    · conv => lhs; unfold narrowT
      rw [if_neg he, if_neg he, h2]
theorem consN_keeps (vs : List MVar) (hv : VarsOk vs) (h1 : 1 ≤ vs.length) (vals : List Int) (hm : MayBe vs vals) : ∀ (pt : List (List Nat)) (l : Nat), l < 2 ^ 36 → (∀ pts ∈ pt, ∀ p, p < 2 ^ 36 → Within vs vals p → Within vs vals (leftP pts p)) → Within vs vals l → Within vs vals (consN pt l)
  | [], l, _, _, hw => hw
  | pts :: r, l, h, hk, hw => by
    unfold consN
    rw [if_neg (within_ne vs h1 vals l hw)]
    have := left_le pts l h
    exact consN_keeps vs hv h1 vals hm r _ (by omega) (fun q hq => hk q (List.mem_cons_of_mem _ hq)) (hk pts (List.mem_cons_self ..) l h hw)
theorem narrowN_keeps (vs : List MVar) (hv : VarsOk vs) (h1 : 1 ≤ vs.length) (vals : List Int) (hm : MayBe vs vals) (cs : List Nat) (hc : ∀ c ∈ cs, Hits vs vals c) (pt : List (List Nat)) (hk : ∀ pts ∈ pt, ∀ p, p < 2 ^ 36 → Within vs vals p → Within vs vals (leftP pts p)) :
    ∀ (f l : Nat), l < 2 ^ 36 → Within vs vals l → Within vs vals (narrowN vs cs pt f l)
  | 0, l, _, hw => hw
  | f + 1, l, h, hw => by
    unfold narrowN
    split
    · exact hw
    · have h2 := units_le vs cs l
      have h3 := narrow_le vs cs pt l h
      exact narrowN_keeps vs hv h1 vals hm cs hc pt hk f _ (by omega) (consN_keeps vs hv h1 vals hm pt _ (by omega) hk (units_keeps vs hv vals hm cs hc l hw))
theorem whole_lt (vs : List MVar) (hv : VarsOk vs) : wholeP vs < 2 ^ 36 := of_lt vs hv _
/-- WHERE NOTHING IS LEFT, VALUES OF WHICH ALL RULES HOLD ARE HELD. -/
theorem narrow_hits (vs : List MVar) (hv : VarsOk vs) (h1 : 1 ≤ vs.length) (vals : List Int) (hm : MayBe vs vals) (cs : List Nat) (hc : ∀ c ∈ cs, Hits vs vals c) (pt : List (List Nat)) (hk : ∀ pts ∈ pt, ∀ p, p < 2 ^ 36 → Within vs vals p → Within vs vals (leftP pts p))
    (h : Nat) (hz : narrowP vs cs pt h = 0) : Hits vs vals h := by
  apply Classical.byContradiction
  intro hn
  have hw := within_rest vs hv vals hm h hn
  unfold narrowP at hz
  rw [if_neg (within_ne vs h1 vals _ hw)] at hz
  exact within_ne vs h1 vals _ (narrowN_keeps vs hv h1 vals hm cs hc pt hk _ _ (less_lt 36 _ _ (whole_lt vs hv)) hw) hz

theorem count_parts (f g : Nat → Bool) (h : ∀ i, g i = true → f i = true) : ∀ l : List Nat, (l.filter f).length = (l.filter g).length + (l.filter fun i => f i && !g i).length
  | [] => rfl
  | a :: r => by
    have ih := count_parts f g h r
    rw [List.filter_cons, List.filter_cons, List.filter_cons]
    cases hf : f a <;> cases hg : g a
    · simpa using ih
    · rw [h a hg] at hf; cases hf
    · simp; omega
    · simp; omega
/-- How many values there are. -/
def bitsN (p : Nat) : Nat := (bitsL p).length
theorem bits_le (p : Nat) : bitsN p ≤ 36 := by
  unfold bitsN bitsL
  exact Nat.le_trans (List.length_filter_le _ _) (by simp)
theorem bits_sub (a b : Nat) (h : ∀ i, a.testBit i = true → b.testBit i = true) : bitsN a ≤ bitsN b := by
  unfold bitsN bitsL
  rw [count_parts (fun i => b.testBit i) (fun i => a.testBit i) h]
  omega
theorem bits_less (a b : Nat) (hb : b < 2 ^ 36) (h : ∀ i, a.testBit i = true → b.testBit i = true) (hne : a ≠ b) : bitsN a + 1 ≤ bitsN b := by
  unfold bitsN bitsL
  rw [count_parts (fun i => b.testBit i) (fun i => a.testBit i) h]
  have : ((List.range 36).filter fun i => b.testBit i && !a.testBit i) ≠ [] := fun hn => by
    refine hne (Nat.eq_of_testBit_eq fun i => ?_)
    by_cases hi : i < 36
    · have := List.filter_eq_nil_iff.1 hn i (List.mem_range.2 hi)
      cases ha : a.testBit i <;> cases hbb : b.testBit i
      · rfl
      · rw [ha, hbb] at this; simp at this
      · rw [h i ha] at hbb; cases hbb
      · rfl
    · have h1 : b.testBit i = false := Nat.testBit_lt_two_pow (Nat.lt_of_lt_of_le hb (Nat.pow_le_pow_right (by omega) (by omega)))
      cases ha : a.testBit i
      · exact h1.symm
      · rw [h i ha] at h1; cases h1
  have := List.length_pos_iff.2 this
  omega
/-- The least of a list that is enough, from its end on. -/
def leastL {α : Type} (enough : List α → Bool) : Nat → List α → List α
  | 0, out => out
  | k + 1, out => leastL enough k (if enough (out.eraseIdx k) then out.eraseIdx k else out)
theorem least_enough {α : Type} (enough : List α → Bool) : ∀ (k : Nat) (out : List α), enough out = true → enough (leastL enough k out) = true
  | 0, out, h => h
  | k + 1, out, h => by
    unfold leastL
    apply least_enough
    split
    · assumption
    · exact h
theorem least_mem {α : Type} (enough : List α → Bool) (x : α) : ∀ (k : Nat) (out : List α), x ∈ leastL enough k out → x ∈ out
  | 0, out, h => h
  | k + 1, out, h => by
    unfold leastL at h
    have := least_mem enough x k _ h
    split at this
    · exact List.mem_of_mem_eraseIdx this
    · exact this
theorem least_len {α : Type} (enough : List α → Bool) : ∀ (k : Nat) (out : List α), (leastL enough k out).length ≤ out.length
  | 0, out => Nat.le_refl _
  | k + 1, out => by
    unfold leastL
    refine Nat.le_trans (least_len enough k _) ?_
    split
    · exact List.length_eraseIdx_le ..
    · exact Nat.le_refl _

/-- Why a constraint says so. -/
def whyP (vs : List MVar) (pts : List Nat) (any : Cla) (gone : Nat) : Cla := any ++ litsP vs (spareP (fun g => saysP vs pts (heldP vs any ||| g)) (gone + 1) gone gone)
theorem reason_why (vs : List MVar) (c : MCon) (s : Sto) (any : Cla) : reasonP vs c s any = whyP vs (pointsP vs c) any (goneP vs s) := rfl
/-- A reason: a step, and what its clause holds of. -/
def reasonOf (vs : List MVar) (con : Nat) (c : Cla) : MStep × Nat := (⟨1, (con : Int), c⟩, heldP vs c)
def reasonsT (vs : List MVar) (pt : List (List Nat)) (t : Nat × Nat × Nat) : List (MStep × Nat) :=
  if t.2.2 = 0 then [reasonOf vs t.1 (whyP vs (pt.getD t.1 []) [] (lessN (wholeP vs) t.2.1))]
  else (litsP vs (lessN t.2.1 t.2.2)).map fun l => reasonOf vs t.1 (whyP vs (pt.getD t.1 []) [⟨l.var, 4, l.n⟩] (lessN (wholeP vs) t.2.1))
def reasonsP (vs : List MVar) (cs : List Nat) (pt : List (List Nat)) (h : Nat) : List (MStep × Nat) := (tellsP vs cs pt h).flatMap (reasonsT vs pt)
def enoughP (vs : List MVar) (cs : List Nat) (h : Nat) (some : List (MStep × Nat)) : Bool := failsP vs (cs ++ some.map (·.2)) h
def stepsA (vs : List MVar) (cs : List Nat) (pt : List (List Nat)) (c : Cla) : List MStep :=
  (leastL (enoughP vs cs (heldP vs c)) (reasonsP vs cs pt (heldP vs c)).length (reasonsP vs cs pt (heldP vs c))).map (·.1) ++ [⟨2, 0, c⟩]
def nothingP (vs : List MVar) (cs : List Nat) (pt : List (List Nat)) (c : Cla) : Bool := narrowP vs cs pt (heldP vs c) == 0
def leastC (vs : List MVar) (cs : List Nat) (pt : List (List Nat)) (c : Cla) : Cla := leastL (nothingP vs cs pt) c.length c
/-- All constraints' points. -/
def ptsM (m : Mod) : List (List Nat) := m.cons.map (pointsP m.vars)
theorem ptsM_keeps (m : Mod) (hm : checkM m = 0) (vals : List Int) (hv : MayBe m.vars vals) (hc : ∀ c ∈ m.cons, holdsC c vals = true) : ∀ pts ∈ ptsM m, ∀ p, p < 2 ^ 36 → Within m.vars vals p → Within m.vars vals (leftP pts p) := by
  intro pts hp p h36 hw
  obtain ⟨c, hcm, rfl⟩ := List.mem_map.1 hp
  obtain ⟨j, hj, he⟩ := List.getElem_of_mem hcm
  obtain ⟨k1, k2⟩ := scope_in m hm j c (by rw [List.getElem?_eq_getElem hj, he])
  exact left_keeps m.vars (vars_okP m hm) c k1 k2 vals hv (hc c hcm) p h36 hw
/-- WHAT IS LEARNED HOLDS. -/
theorem learned_holds (m : Mod) (hm : checkM m = 0) (vals : List Int) (hv : MayBe m.vars vals) (hc : ∀ c ∈ m.cons, holdsC c vals = true) (cs : List Nat) (hh : ∀ c ∈ cs, Hits m.vars vals c) (c : Cla) (hz : nothingP m.vars cs (ptsM m) c = true) : Hits m.vars vals (heldP m.vars c) := by
  unfold nothingP at hz
  exact narrow_hits m.vars (vars_okP m hm) (vars_one m hm) vals hv cs hh (ptsM m) (ptsM_keeps m hm vals hv hc) _ (by simpa using hz)
end Go.Proofs.YtijohkhpigjbkaeGreatDoor
/-
  WALK: package fence: Left.
-/
namespace Go.Proofs.YtijohkhpigjbkaeGreatDoor
open Go.RowKit

theorem leftF_cons (p : Nat) (pts : List Nat) (k z : Nat) (s : Nat × Nat × Bool) (h : pts[k]? = some z) : leftF p (pts.drop k) s = leftF p (pts.drop (k + 1)) (if lessN z p = 0 then (z, s.2.1 ||| z, true) else s) := by
  have hk : k < pts.length := (List.getElem?_eq_some_iff.1 h).1
  have hc : pts[k] = z := by rw [List.getElem?_eq_getElem hk] at h; exact Option.some.inj h
  rw [List.drop_eq_getElem_cons hk, hc]
  rfl

set_option maxHeartbeats 1600000 in
set_option maxRecDepth 100000 in
theorem fleft_any (pts : List Nat) (p : Nat) (hp36 : p < 2 ^ 36) (pv : Value) (w : World) (hp : PArg w pv pts) (hT : TabT w) :
    Calls Tryz.prog 219 #[pv, .int .u64 p] w fun e w' => e = .returned (.int .u64 ((leftP pts p : Nat) : Int)) ∧ w' = w := by
  have HT : Hid (TabT w) := hT
  have HP36 : Hid (p < 2 ^ 36) := hp36
  obtain ⟨R, hR⟩ : ∃ R, leftP pts p = R := ⟨_, rfl⟩
  obtain ⟨S, hS⟩ : ∃ S, leftF p pts (0, 0, false) = S := ⟨_, rfl⟩
  have HS : Hid (R = if S.2.2 then clrN (S.1 + 1) S.1 p ||| S.2.1 else 0) := by show _ = _; rw [← hR, ← hS]; rfl
  have HS0 : Hid (S = leftF p pts (0, 0, false)) := hS.symm
  rw [hR]
  obtain ⟨a2, c2, rfl, hm, hrp⟩ := hp
  have HP : Hid (∀ (i z : Nat), pts[i]? = some z → z < 2 ^ 36 ∧ ∃ b off, a2 = some ⟨b, off, none⟩ ∧ b < w.heap.size ∧ w.cell? ⟨b, off + i, none⟩ = some (.int .u64 z)) := hrp
  unfold maxLen at hm
  obtain ⟨hm1, hm⟩ := hm
  clear hT hR hS hrp hp36
  go_enter Tryz.func219, Tryz.ntmps219
  go_wp2_with fail
  go_loopw [5, 6, 7, 12] (fun s t f i wr => ∃ (k ss tt : Nat) (ff : Bool), k ≤ pts.length ∧ s = .int .u64 (ss : Int) ∧ t = .int .u64 (tt : Int) ∧ f = .bool ff ∧ i = .int .i64 k ∧ Hid (ss < 2 ^ 36) ∧ Hid (tt < 2 ^ 36) ∧ Hid (S = leftF p (pts.drop k) (ss, tt, ff)) ∧ wr = w) (fun _ _ _ i _ => pts.length - (intOf i).toNat)
  case atStart => exact ⟨0, 0, 0, false, by omega, rfl, rfl, rfl, rfl, by show _ < _; decide, by show _ < _; decide, HS0, rfl⟩
  case round =>
    obtain ⟨k, ss, tt, ff, hk, rfl, rfl, rfl, rfl, hs36, ht36, hst, rfl⟩ := hrel
    by_cases hlt : k < pts.length
    · obtain ⟨z, hz⟩ : ∃ z, pts[k]? = some z := ⟨pts[k], by simp [hlt]⟩
      obtain ⟨hz36, b, off, ha, hb, hc⟩ := HP.out k z hz
      subst ha
      have HZ36 : Hid (z < 2 ^ 36) := hz36
      have HN : Hid (S = leftF p (pts.drop (k + 1)) (if lessN z p = 0 then (z, tt ||| z, true) else (ss, tt, ff))) := by show _ = _; rw [hst.out]; exact leftF_cons p pts k z _ hz
      have hnt := bits_andNot_u64 z p (by omega) (by have := HP36.out; omega)
      obtain ⟨o, ho⟩ : ∃ o, lessN z p = o := ⟨_, rfl⟩
      rw [ho] at hnt HN
      clear hz hst ho
      by_cases ho0 : o = 0
      · have HN2 : Hid (S = leftF p (pts.drop (k + 1)) (z, tt ||| z, true)) := by show _ = _; rw [HN.out, if_pos ho0]
        have hor := bits_or_u64_nat tt z (by have := ht36.out; omega) (by omega)
        have HT36 : Hid (tt ||| z < 2 ^ 36) := or_lt36 ht36.out hz36
        obtain ⟨t2, ht2⟩ : ∃ t2, tt ||| z = t2 := ⟨_, rfl⟩
        rw [ht2] at hor HT36 HN2
        subst ho0
        clear ht2 HN hz36
        go_wp2
        go_roundw
        case rel => exact ⟨k + 1, z, t2, true, by omega, rfl, rfl, rfl, by go_num, HZ36, HT36, HN2, trivial⟩
        case measure => simp [intOf]; omega
      · have HN2 : Hid (S = leftF p (pts.drop (k + 1)) (ss, tt, ff)) := by show _ = _; rw [HN.out, if_neg ho0]
        have ho1 : ((o : Int) == 0) = false := by simpa using ho0
        clear HN ho0 hz36
        go_wp2
        go_roundw
        case rel => exact ⟨k + 1, ss, tt, ff, by omega, rfl, rfl, rfl, by go_num, hs36, ht36, HN2, trivial⟩
        case measure => simp [intOf]; omega
    · have hke : k = pts.length := by omega
      have HE : Hid (S = (ss, tt, ff)) := by show _ = _; rw [hst.out, hke, List.drop_length]; rfl
      have HR : Hid (R = if ff then clrN (ss + 1) ss p ||| tt else 0) := by show _ = _; rw [HS.out, HE.out]
      clear hst hke
      cases ff
      · have HR0 : Hid (R = 0) := HR.out
        go_wp2
        go_ret
        exact ⟨ret_u64 HR0.out.symm, rfl⟩
      · have HR1 : Hid (R = clrN (ss + 1) ss p ||| tt) := HR.out
        clear HR
        go_wp2_with fail
        go_loopw [1, 5] (fun q s wx => ∃ qq s2 : Nat, q = .int .u64 (qq : Int) ∧ s = .int .u64 (s2 : Int) ∧ Hid (qq < 2 ^ 36) ∧ Hid (s2 < 2 ^ 36) ∧ Hid (R = clrN (s2 + 1) s2 qq ||| tt) ∧ wx = wr) (fun _ s _ => (intOf s).toNat)
        case atStart => exact ⟨p, ss, rfl, rfl, HP36, hs36, HR1, rfl⟩
        case round =>
          obtain ⟨qq, s2, rfl, rfl, hq36, hs2, hr2, rfl⟩ := hrel
          by_cases hs0 : s2 = 0
          · have HRF : Hid (R = qq ||| tt) := by show _ = _; rw [hr2.out, hs0]; rfl
            have hor := bits_or_u64_nat qq tt (by have := hq36.out; omega) (by have := ht36.out; omega)
            obtain ⟨r, hr⟩ : ∃ r, qq ||| tt = r := ⟨_, rfl⟩
            rw [hr] at hor HRF
            subst hs0
            clear hr hr2
            go_wp2
            go_ret
            exact ⟨ret_u64 HRF.out.symm, rfl⟩
          · have HST : Hid (R = clrN (lessN s2 (fieldP s2) + 1) (lessN s2 (fieldP s2)) (lessN qq (fieldP s2)) ||| tt) := by show _ = _; rw [hr2.out, clr_step s2 qq hs0 hs2.out]
            have HLT : Hid (lessN s2 (fieldP s2) < s2) := less_field_lt s2 hs0 hs2.out
            have HF36 : Hid (fieldP s2 < 2 ^ 36) := field_lt s2 hs0 hs2.out
            have HN0 : Hid (s2 ≠ 0) := hs0
            have hne : ((s2 : Int) != 0) = true := by simpa using hs0
            obtain ⟨f, hf⟩ : ∃ f, fieldP s2 = f := ⟨_, rfl⟩
            have HF : Hid (fieldP s2 = f) := hf
            rw [hf] at HST HLT HF36
            have hn1 := bits_andNot_u64 qq f (by have := hq36.out; omega) (by have := HF36.out; omega)
            have hn2 := bits_andNot_u64 s2 f (by have := hs2.out; omega) (by have := HF36.out; omega)
            obtain ⟨q3, hq3⟩ : ∃ q3, lessN qq f = q3 := ⟨_, rfl⟩
            obtain ⟨s3, hs3⟩ : ∃ s3, lessN s2 f = s3 := ⟨_, rfl⟩
            have HQ3 : Hid (q3 < 2 ^ 36) := by rw [← hq3]; exact less_lt 36 _ _ hq36.out
            have HS3 : Hid (s3 < 2 ^ 36) := by rw [← hs3]; exact less_lt 36 _ _ hs2.out
            rw [hq3] at hn1 HST
            rw [hs3] at hn2 HST HLT
            clear hf hq3 hs3 hs0 hr2
            go_wp2_with fail
            refine (field_any s2 HN0.out hs2.out _ HT.out).mono ?_
            rintro e w ⟨rfl, rfl⟩
            rw [HF.out]
            go_wp2_with fail
            refine (field_any s2 HN0.out hs2.out _ HT.out).mono ?_
            rintro e w ⟨rfl, rfl⟩
            rw [HF.out]
            go_wp2
            go_roundw
            case rel => exact ⟨q3, s3, rfl, rfl, HQ3, HS3, HST, trivial⟩
            case measure => simp [intOf]; exact HLT.out
end Go.Proofs.YtijohkhpigjbkaeGreatDoor
/-
  WALKS: package fence: Says.
-/
namespace Go.Proofs.YtijohkhpigjbkaeGreatDoor
open Go.RowKit

theorem fen_call {w2 Y w3 : World} {A : Prop} (h : Below w2.heap.size w2 Y ∧ A) (hb : Below Y.heap.size Y w3) : Below w2.heap.size w2 w3 := h.1.trans (hb.mono h.1.size)

set_option maxHeartbeats 1600000 in
set_option maxRecDepth 100000 in
theorem says_any (vs : List MVar) (hva : VarsAll vs) (pts : List Nat) (h : Nat) (hh : h < 2 ^ 36) (sv pv : Value) (w : World) (hv : VArg w sv vs) (hp : PArg w pv pts) :
    Calls Tryz.prog 86 #[sv, pv, .int .u64 h] w fun e w' => e = .returned (.bool (saysP vs pts h)) ∧ Below w.heap.size w w' := by
  have HV : Hid (∀ w', Below w.heap.size w w' → VArg w' sv vs) := fun w' h => VArg.below h hv
  have HP : Hid (∀ w', Below w.heap.size w w' → PArg w' pv pts) := fun w' h => PArg.below h hp
  have HVO : Hid (VarsAll vs) := hva
  have HH : Hid (h < 2 ^ 36) := hh
  have H6 : Hid (vs.length ≤ 6) := hva.1.1
  have HW36 : Hid (wholeP vs < 2 ^ 36) := of_lt vs hva.1 _
  obtain ⟨q, hq⟩ : ∃ q, wholeP vs = q := ⟨_, rfl⟩
  obtain ⟨r, hr⟩ : ∃ r, lessN (wholeP vs) h = r := ⟨_, rfl⟩
  have HR36 : Hid (r < 2 ^ 36) := by rw [← hr]; exact less_lt 36 _ _ HW36.out
  have hbits := bits_andNot_u64 (wholeP vs) h (by have := HW36.out; omega) (by omega)
  rw [hr, hq] at hbits
  have HQ : Hid (wholeP vs = q) := hq
  have HS : Hid (saysP vs pts h = (lackP vs.length r || !pts.any (stayP h))) := by show _ = _; unfold saysP; rw [hr]
  rw [HS.out]
  have HWH : Hid (∀ w', Below w.heap.size w w' → Calls Tryz.prog 79 #[sv] w' fun e w'' => e = .returned (.int .u64 (q : Int)) ∧ Below w'.heap.size w' w'') := fun w' hb => by
    rw [← HQ.out]; exact whole_any vs HVO.out sv w' (HV.out w' hb)
  have HLA : Hid (∀ w', Below w.heap.size w w' → Calls Tryz.prog 148 #[sv, .int .u64 r] w' fun e w'' => e = .returned (.bool (lackP vs.length r)) ∧ Below w'.heap.size w' w'') := fun w' hb =>
    (lacking_any vs H6.out r HR36.out sv w' (HV.out w' hb)).mono fun e w'' ⟨h1, h2⟩ => ⟨h1, by rw [h2]; exact Below.refl _ _⟩
  have HCO : Hid (∀ w', Below w.heap.size w w' → ∀ b1, w'.cell? ⟨b1, 0, none⟩ = some (.int .u64 h) → Calls Tryz.prog 149 #[pv, .func (.func 147) #[] #[.pointer (some ⟨b1, 0, none⟩)]] w' fun e w'' => e = .returned (.bool (pts.any (stayP h))) ∧ Below w'.heap.size w' w'') := fun w' hb b1 hc =>
    (containsf_parts h HH.out b1 pts pv w' (HP.out w' hb) hc).mono fun e w'' ⟨h1, h2⟩ => ⟨h1, by rw [h2]; exact Below.refl _ _⟩
  obtain ⟨a, c, rfl, _, _⟩ := hv
  obtain ⟨a2, c2, rfl, _, _⟩ := hp
  clear hva hh hq hr
  obtain ⟨L, hL⟩ : ∃ L, lackP vs.length r = L := ⟨_, rfl⟩
  obtain ⟨S, hS⟩ : ∃ S, pts.any (stayP h) = S := ⟨_, rfl⟩
  rw [hL] at HLA ⊢
  rw [hS] at HCO ⊢
  clear hL hS HS
  go_enter Tryz.func86, Tryz.ntmps86
  go_wp2_with fail
  have HB0 : Hid (Below w.heap.size w (w.alloc (.cells #[.int .u64 h] 118))) := below_alloc _ _
  have k0 : (w.alloc (.cells #[.int .u64 h] 118)).cell? ⟨w.heap.size, 0, none⟩ = some (.int .u64 h) := World.cell?_alloc_at _ _ _ 0 (by simp)
  have n0 : w.heap.size < (w.alloc (.cells #[.int .u64 h] 118)).heap.size := by simp
  obtain ⟨W, hW⟩ : ∃ W, w.alloc (.cells #[.int .u64 h] 118) = W := ⟨_, rfl⟩
  rw [hW] at HB0 k0 n0 ⊢
  clear hW
  have HT : Hid (∀ Y, Below W.heap.size W Y → Below w.heap.size w Y) := fun Y hY => HB0.out.trans (hY.mono HB0.out.size)
  cases L
  · go_region_held3 (fun w' => Below W.heap.size W w' ∧ w'.cell? ⟨w.heap.size, 0, none⟩ = some (.int .u64 h))
      ((refine (fun (hB : Below W.heap.size W _) => ⟨hB, (hB.cell (p := ⟨w.heap.size, 0, none⟩) n0).trans k0⟩ : Below W.heap.size W _ → _) ?_; first | exact (Below.refl _ _).drew | exact fen_call (by assumption) hbq))
      (first
        | (go_at_call 79; refine (HWH.out _ (HT.out _ (show Below W.heap.size W _ ∧ _ by assumption).1)).mono ?_; rintro e w3 ⟨rfl, hbq⟩; have hB3 := fen_call (by assumption) hbq)
        | (go_at_call 148; refine (HLA.out _ (HT.out _ (show Below W.heap.size W _ ∧ _ by assumption).1)).mono ?_; rintro e w3 ⟨rfl, hbq⟩; have hB3 := fen_call (by assumption) hbq)
        | (go_at_call 149; refine (HCO.out _ (HT.out _ (show Below W.heap.size W _ ∧ _ by assumption).1) _ (show Below W.heap.size W _ ∧ _ by assumption).2).mono ?_; rintro e w3 ⟨rfl, hbq⟩; have hB3 := fen_call (by assumption) hbq))
    have HB3 : Hid (Below w.heap.size w w3) := HT.out _ hB3
    go_wp2
    go_ret
    exact ⟨ret_bool (by simp), HB3.out⟩
  · have HS : Hid (∀ Y, Below W.heap.size W Y → Below W.heap.size W Y ∧ Y.cell? ⟨w.heap.size, 0, none⟩ = some (.int .u64 h)) := fun Y hY => ⟨hY, (hY.cell (p := ⟨w.heap.size, 0, none⟩) n0).trans k0⟩
    have hHeld := HS.out W.drew (Below.refl _ _).drew
    refine wp_region_held_drew (S := fun Y => Below W.heap.size W Y ∧ Y.cell? ⟨w.heap.size, 0, none⟩ = some (.int .u64 h)) (by kernel_rfl) hHeld (fun _ => ?_)
    refine wpAnyH_take (i := 0) (v := ?v0) rfl (by kernel_rfl) (by kernel_rfl) (by kernel_rfl) (fun _ _ _ h => h) (Or.inl ⟨by rfl, ?y0⟩) hHeld ?r0
    case y0 => intro wq hSw; obtain ⟨q0, q1⟩ := hSw; go_simp; with_reducible rfl
    refine wpAnyH_take (i := 1) (v := ?v1) rfl (by kernel_rfl) (by kernel_rfl) (by kernel_rfl) (fun _ _ _ h => h) (Or.inl ⟨by rfl, ?y1⟩) hHeld ?r1
    case y1 => intro wq hSw; obtain ⟨q0, q1⟩ := hSw; go_simp; with_reducible rfl
    refine wpAnyH_take (i := 3) (v := ?v3) rfl (by kernel_rfl) (by kernel_rfl) (by kernel_rfl) (fun _ _ _ h => h) (Or.inl ⟨by rfl, ?y3⟩) hHeld ?r3
    case y3 => intro wq hSw; obtain ⟨q0, q1⟩ := hSw; go_simp; with_reducible rfl
    refine wpAnyH_ready (rs := [2]) (by kernel_rfl) (by simp) ?_
    refine AllReadyH.cons rfl (fun K hK => ?_) AllReadyH.nil
    go_simp
    refine (HWH.out _ (HT.out _ hHeld.1)).mono ?_
    rintro e w2 ⟨rfl, hb2⟩
    have hB2 : Below W.heap.size W w2 := hHeld.1.trans hb2
    dsimp only
    have hHeld2 := HS.out w2 hB2
    refine hK.out _ _ hHeld2 (fun _ => ?_)
    clear hK
    refine wpAnyH_take (i := 4) (v := ?v4) rfl (by kernel_rfl) (by kernel_rfl) (by kernel_rfl) (fun _ _ _ h => h) (Or.inl ⟨by rfl, ?y4⟩) hHeld2 ?r4
    case y4 => intro wq hSw; obtain ⟨q0, q1⟩ := hSw; go_simp; with_reducible rfl
    refine wpAnyH_ready (rs := [5]) (by kernel_rfl) (by simp) ?_
    refine AllReadyH.cons rfl (fun K hK => ?_) AllReadyH.nil
    go_simp
    refine (HLA.out _ (HT.out _ hHeld2.1)).mono ?_
    rintro e w3 ⟨rfl, hb3⟩
    have hB3 : Below W.heap.size W w3 := hB2.trans (hb3.mono hB2.size)
    dsimp only
    have hHeld3 := HS.out w3 hB3
    refine hK.out _ _ hHeld3 (fun _ => ?_)
    clear hK
    refine wpAnyH_take (i := 6) (v := ?v6) rfl (by kernel_rfl) (by kernel_rfl) (by kernel_rfl) (fun _ _ _ h => h) (Or.inl ⟨by rfl, ?y6⟩) hHeld3 ?r6
    case y6 => intro wq hSw; obtain ⟨q0, q1⟩ := hSw; go_simp; with_reducible rfl
    refine wpAnyH_take (i := 7) rfl (by kernel_rfl) (by kernel_rfl) (by kernel_rfl) (fun _ _ _ h => h) (Or.inr ⟨by rfl, rfl⟩) hHeld3 ?_
    refine wpAnyH_take (i := 8) rfl (by kernel_rfl) (by kernel_rfl) (by kernel_rfl) (fun _ _ _ h => h) (Or.inr ⟨by rfl, rfl⟩) hHeld3 ?_
    refine wpAnyH_take (i := 9) rfl (by kernel_rfl) (by kernel_rfl) (by kernel_rfl) (fun _ _ _ h => h) (Or.inr ⟨by rfl, rfl⟩) hHeld3 ?_
    refine wpAnyH_take (i := 10) rfl (by kernel_rfl) (by kernel_rfl) (by kernel_rfl) (fun _ _ _ h => h) (Or.inr ⟨by rfl, rfl⟩) hHeld3 ?_
    refine wpAnyH_take (i := 11) (v := ?v11) rfl (by kernel_rfl) (by kernel_rfl) (by kernel_rfl) (fun _ _ _ h => h) (Or.inl ⟨by rfl, ?y11⟩) hHeld3 ?r11
    case y11 => intro wq hSw; obtain ⟨q0, q1⟩ := hSw; go_simp; with_reducible rfl
    refine wpAnyH_take (i := 12) (v := ?v12) rfl (by kernel_rfl) (by kernel_rfl) (by kernel_rfl) (fun _ _ _ h => h) (Or.inl ⟨by rfl, ?y12⟩) hHeld3 ?r12
    case y12 => intro wq hSw; obtain ⟨q0, q1⟩ := hSw; go_simp; with_reducible rfl
    refine wpAnyH_done (by kernel_rfl) ?_ _
    have HB3 : Hid (Below w.heap.size w w3) := HT.out _ hB3
    go_wp2
    go_ret
    exact ⟨ret_bool (by simp), HB3.out⟩
end Go.Proofs.YtijohkhpigjbkaeGreatDoor
/-
  MEMORY: lists of parts.
-/
namespace Go.Proofs.YtijohkhpigjbkaeGreatDoor
open Go.RowKit

/-- Lists of parts, one for each constraint. -/
def PPArg (w : World) (v : Value) (pt : List (List Nat)) : Prop :=
  ∃ a c, v = .slice a pt.length c ∧ (pt.length ≤ c ∧ c ≤ maxLen) ∧ ∀ (i : Nat) (pts : List Nat), pt[i]? = some pts → ∃ b off x, a = some ⟨b, off, none⟩ ∧ b < w.heap.size ∧ w.cell? ⟨b, off + i, none⟩ = some x ∧ PArg w x pts
theorem PPArg.below {w w' : World} {v : Value} {pt : List (List Nat)} (hb : Below w.heap.size w w') (h : PPArg w v pt) : PPArg w' v pt := by
  obtain ⟨a, c, hv, hm, hr⟩ := h
  refine ⟨a, c, hv, hm, fun i z hz => ?_⟩
  obtain ⟨b, off, x, ha, hlt, hc, hx⟩ := hr i z hz
  exact ⟨b, off, x, ha, Nat.lt_of_lt_of_le hlt hb.size, (hb.cell (p := ⟨b, off + i, none⟩) hlt).trans hc, PArg.below hb hx⟩
end Go.Proofs.YtijohkhpigjbkaeGreatDoor
