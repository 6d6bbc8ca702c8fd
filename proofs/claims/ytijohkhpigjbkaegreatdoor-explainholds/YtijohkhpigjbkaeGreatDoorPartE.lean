/-
  PART 5 of what the proof leans on (StoB, StoC, FenB, ExpPlain, StoD, OldA, FenE, FenT, ExpA, FenL, FenC).
-/
import Derived.Test.YtijohkhpigjbkaeGreatDoorPartD
import Derived.Deep.RegionHeld3
import Derived.Laws.OwnMore
import Derived.Shelf.Spec.TrailingZeros
import Derived.Lib.SliceRun
import Derived.Deep.Onto
import Derived.Deep.RegionLaw
/-
  WALKS: package store: checkValues, check.
-/
namespace Go.Proofs.YtijohkhpigjbkaeGreatDoor
open Go.RowKit

set_option maxHeartbeats 400000 in
set_option maxRecDepth 100000 in
theorem beyond_any (vs : List MVar) (a : Value) (b1 b2 k : Nat) (t : MVar) (z : Int) (w : World) (hv : VArg w a vs) (ht : vs[k]? = some t) (h1 : w.cell? ⟨b1, 0, none⟩ = some a) (h2 : w.cell? ⟨b2, 0, none⟩ = some (.int .i64 k)) :
    Calls Tryz.prog 196 #[.int .i64 z, .pointer (some ⟨b1, 0, none⟩), .pointer (some ⟨b2, 0, none⟩)] w fun e w' => e = .returned (.bool (!insideB t z)) ∧ w' = w := by
  obtain ⟨a', c, rfl, hm, hr⟩ := hv
  have hkl : k < vs.length := (List.getElem?_eq_some_iff.1 ht).1
  obtain ⟨_, b, off, rfl, hlt, c0, c1, c2⟩ := hr k t ht
  unfold maxLen at hm
  obtain ⟨hm1, hm⟩ := hm
  clear hr ht
  unfold insideB
  by_cases q1 : z < t.lo
  · go_enter Tryz.func196, Tryz.ntmps196
    go_wp2
    go_ret
    exact ⟨ret_bool (by first | rfl | (simp; omega)), rfl⟩
  · by_cases q2 : t.hi < z
    · go_enter Tryz.func196, Tryz.ntmps196
      go_wp2
      go_ret
      exact ⟨ret_bool (by first | rfl | (simp; omega)), rfl⟩
    · go_enter Tryz.func196, Tryz.ntmps196
      go_wp2
      go_ret
      exact ⟨ret_bool (by first | rfl | (simp; omega)), rfl⟩

theorem enters_beyond (args : Array Value) (w' : World) : Sem.run Tryz.prog (callFunc 196 args) w' = .ok (.enter 196 args) w' := by
  simp [callFunc, go_sem, Tryz.func196, Tryz.f196]
theorem any_not {α : Type} (p : α → Bool) (l : List α) : (l.any fun x => !p x) = !l.all p := by
  induction l with
  | nil => rfl
  | cons a r ih => rw [List.any_cons, List.all_cons, ih]; cases p a <;> simp

set_option maxHeartbeats 1600000 in
set_option maxRecDepth 100000 in
theorem values_any (vs : List MVar) (s : Sto) (a v : Value) (w : World) (ha : VArg w a vs) (hv : RArg w v s) :
    Calls Tryz.prog 154 #[a, v] w fun e w' => e = .returned (.int .i64 (checkV vs s)) ∧ Below w.heap.size w w' := by
  have HA : Hid (∀ w' : World, Below w.heap.size w w' → VArg w' a vs) := fun w' h => VArg.below h ha
  have HVB : Hid (∀ w' : World, Below w.heap.size w w' → RArg w' v s) := fun w' h => RArg.below h hv
  obtain ⟨a1, c1, rfl, hl1, hr1⟩ := ha
  obtain ⟨a2, c2, rfl, hl2, hr2⟩ := hv
  obtain ⟨R, hR⟩ : ∃ R, checkV vs s = R := ⟨_, rfl⟩
  rw [hR]
  unfold maxLen at hl1 hl2
  obtain ⟨hl11, hl1⟩ := hl1
  obtain ⟨hl21, hl2⟩ := hl2
  clear hr1 hr2
  by_cases h0 : s.length = vs.length
  · have HE : Hid (R = if (vs.zip s).all (fun p => p.2.all (insideB p.1)) then (if s.all risesB then 0 else 4) else 3) := by
      rw [← hR]; unfold checkV rangeS; rw [if_pos h0]; rfl
    have g0 : ((s.length : Int) != (vs.length : Int)) = false := by simp [h0]
    have H0 : Hid (s.length = vs.length) := h0
    clear hR h0
    go_enter Tryz.func154, Tryz.ntmps154
    go_wp2_with fail
    obtain ⟨w0, hw0⟩ : ∃ w0 : World, w0 = w.alloc (.cells #[.slice a1 vs.length c1] 22) := ⟨_, rfl⟩
    rw [← hw0]
    have HB0 : Hid (Below w.heap.size w w0) := by rw [hw0]; exact below_alloc _ _
    have HZ0 : Hid (w0.heap.size = w.heap.size + 1) := by show _ = _; show _ = _; rw [hw0]; simp
    have HD : Hid (w0.cell? ⟨w.heap.size, 0, none⟩ = some (.slice a1 vs.length c1)) := by show _ = _; rw [hw0]; simp
    clear hw0
    go_loopw [17] (fun i wr => ∃ k : Nat, k ≤ s.length ∧ i = .int .i64 k ∧ Hid (((vs.zip s).take k).all (fun p => p.2.all (insideB p.1)) = true) ∧ Below w0.heap.size w0 wr) (fun i _ => s.length - (intOf i).toNat)
    case atStart => exact ⟨0, by omega, rfl, rfl, Below.refl _ _⟩
    case round =>
      obtain ⟨k, hk, rfl, hall, hbw⟩ := hrel
      have hlt0 : w.heap.size < w0.heap.size := by rw [HZ0.out]; omega
      have HBW : Hid (Below w.heap.size w wr) := HB0.out.trans (hbw.mono (by omega))
      by_cases hlt : k < s.length
      · obtain ⟨t, ht⟩ : ∃ t, vs[k]? = some t := ⟨vs[k]'(by rw [← H0.out]; exact hlt), by simp⟩
        obtain ⟨r, hrr⟩ : ∃ r, s[k]? = some r := ⟨s[k], by simp [hlt]⟩
        have HG : Hid ((vs.zip s)[k]? = some (t, r)) := by show _ = _; rw [List.getElem?_zip_eq_some]; exact ⟨ht, hrr⟩
        obtain ⟨a2', c2', hva, _, hrc⟩ := HVB.out _ HBW.out
        obtain ⟨b, off, x, hax, hb, hc, hix⟩ := hrc k r hrr
        have ha2 : a2 = some ⟨b, off, none⟩ := by cases hva; exact hax
        subst ha2
        have HIX : Hid (IArg wr x r) := hix
        have HT : Hid (vs[k]? = some t) := ht
        obtain ⟨a3, c3, rfl, _, _⟩ := hix
        have hsz := hbw.size
        clear ht hrr hva hrc hax
        go_wp2_with fail
        have hwk : (wr.alloc (.cells #[.int .i64 (k : Int)] 3)).cell? ⟨wr.heap.size, 0, none⟩ = some (.int .i64 k) := by simp
        have hbx : Below w.heap.size w (wr.alloc (.cells #[.int .i64 (k : Int)] 3)) := HBW.out.trans ((below_alloc _ _).mono HBW.out.size)
        have hbx0 : Below w0.heap.size w0 (wr.alloc (.cells #[.int .i64 (k : Int)] 3)) := hbw.alloc hsz _
        have hsx : (wr.alloc (.cells #[.int .i64 (k : Int)] 3)).heap.size = wr.heap.size + 1 := by simp
        obtain ⟨wx, hwx⟩ : ∃ wx : World, wx = wr.alloc (.cells #[.int .i64 (k : Int)] 3) := ⟨_, rfl⟩
        rw [← hwx] at hwk hbx hbx0 hsx ⊢
        have HIX2 : Hid (IArg wx (.slice a3 r.length c3) r) := by rw [hwx]; exact IArg.below (below_alloc _ _) HIX.out
        clear hwx
        refine (containsf_ints 196 _ (fun z => !insideB t z) r _ _ HIX2.out ⟨enters_beyond, ?_⟩).mono ?_
        · intro z w2 hb2
          have g1 := (hb2.cell (p := ⟨w.heap.size, 0, none⟩) (by simp only; omega)).trans ((hbx0.cell (p := ⟨w.heap.size, 0, none⟩) hlt0).trans HD.out)
          have g2 := (hb2.cell (p := ⟨wr.heap.size, 0, none⟩) (by simp only; omega)).trans hwk
          refine (beyond_any vs _ _ _ k t z w2 (HA.out _ (hbx.trans (hb2.mono (by omega)))) HT.out g1 g2).mono ?_
          rintro e w3 ⟨rfl, rfl⟩
          exact ⟨rfl, Below.refl _ _⟩
        rintro e w2 ⟨rfl, hb2⟩
        rw [any_not]
        have hbt : Below w0.heap.size w0 w2 := hbx0.trans (hb2.mono (by omega))
        cases hq : r.all (insideB t)
        · have HN : Hid (R = 3) := by
            have := all_hit (fun p : MVar × List Int => p.2.all (insideB p.1)) (vs.zip s) k (t, r) HG.out hq
            rw [HE.out, this]; rfl
          clear hq
          go_wp2
          go_ret
          exact ⟨ret_int HN.out.symm, HB0.out.trans (hbt.mono (by omega))⟩
        · have HN : Hid (((vs.zip s).take (k + 1)).all (fun p => p.2.all (insideB p.1)) = true) := all_next _ (vs.zip s) k (t, r) HG.out hall.out hq
          clear hq
          go_wp2
          go_roundw
          case rel => exact ⟨k + 1, by omega, by go_num, HN, hbt⟩
          case measure => simp [intOf]; omega
      · have HV : Hid ((vs.zip s).all (fun p => p.2.all (insideB p.1)) = true) := all_end _ _ k (by rw [List.length_zip, ← H0.out]; omega) hall.out
        have HE2 : Hid (R = if s.all risesB then 0 else 4) := by rw [HE.out, HV.out]; rfl
        have HBO : Hid (Below w.heap.size w wr) := HBW.out
        obtain ⟨wo, rfl⟩ : ∃ wo : World, wo = wr := ⟨_, rfl⟩
        go_wp2
        clear hk hall hbw hlt
        go_loopw [29] (fun i wr => ∃ k : Nat, k ≤ s.length ∧ i = .int .i64 k ∧ Hid ((s.take k).all risesB = true) ∧ Below w.heap.size w wr) (fun i _ => s.length - (intOf i).toNat)
        case atStart => exact ⟨0, by omega, rfl, rfl, HBO.out⟩
        case round =>
          obtain ⟨k, hk, rfl, hall, hbw⟩ := hrel
          by_cases hlt : k < s.length
          · obtain ⟨r, hrr⟩ : ∃ r, s[k]? = some r := ⟨s[k], by simp [hlt]⟩
            obtain ⟨a2', c2', hva, _, hrc⟩ := HVB.out _ hbw
            obtain ⟨b, off, x, hax, hb, hc, hix⟩ := hrc k r hrr
            have ha2 : a2 = some ⟨b, off, none⟩ := by cases hva; exact hax
            subst ha2
            have HIX : Hid (IArg wr x r) := hix
            have HRR : Hid (s[k]? = some r) := hrr
            obtain ⟨a3, c3, rfl, _, _⟩ := hix
            clear hrr hva hrc hax
            cases hq : risesB r
            · have HN : Hid (R = 4) := by rw [HE2.out, all_hit risesB s k r HRR.out hq]; rfl
              go_wp2_with fail
              refine (rises_any r _ _ HIX.out).mono ?_
              rintro e w2 ⟨rfl, n, hw2⟩
              rw [hq]
              have hb2 := hbw.trans ((draws_below hw2).mono hbw.size)
              clear hq hw2
              go_wp2
              go_ret
              exact ⟨ret_int HN.out.symm, hb2⟩
            · have HN : Hid ((s.take (k + 1)).all risesB = true) := all_next _ s k r HRR.out hall.out hq
              go_wp2_with fail
              refine (rises_any r _ _ HIX.out).mono ?_
              rintro e w2 ⟨rfl, n, hw2⟩
              rw [hq]
              have hb2 := hbw.trans ((draws_below hw2).mono hbw.size)
              clear hq hw2
              go_wp2
              go_roundw
              case rel => exact ⟨k + 1, by omega, by go_num, HN, hb2⟩
              case measure => simp [intOf]; omega
          · have HN : Hid (R = 0) := by rw [HE2.out, all_end _ s k hlt hall.out]; rfl
            go_wp2
            go_ret
            exact ⟨ret_int HN.out.symm, hbw⟩
  · have HE : Hid (R = 1) := by rw [← hR]; unfold checkV; rw [if_neg h0]; rfl
    have g0 : ((s.length : Int) != (vs.length : Int)) = true := by simp; omega
    clear hR h0
    go_enter Tryz.func154, Tryz.ntmps154
    go_wp2
    go_ret
    exact ⟨ret_int HE.out.symm, below_alloc _ _⟩

/-- Stores, one after the other, as a variadic call has them. -/
def GArg (w : World) (v : Value) (l : List Sto) : Prop :=
  ∃ a c, v = .slice a l.length c ∧ (l.length ≤ c ∧ c ≤ maxLen) ∧ ∀ (i : Nat) (r : Sto), l[i]? = some r → ∃ b off x, a = some ⟨b, off, none⟩ ∧ b < w.heap.size ∧ w.cell? ⟨b, off + i, none⟩ = some x ∧ RArg w x r
theorem GArg.below {w w' : World} {v : Value} {l : List Sto} (hb : Below w.heap.size w w') (h : GArg w v l) : GArg w' v l := by
  obtain ⟨a, c, hv, hm, hr⟩ := h
  refine ⟨a, c, hv, hm, fun i z hz => ?_⟩
  obtain ⟨b, off, x, ha, hlt, hc, hx⟩ := hr i z hz
  exact ⟨b, off, x, ha, Nat.lt_of_lt_of_le hlt hb.size, (hb.cell (p := ⟨b, off + i, none⟩) hlt).trans hc, RArg.below hb hx⟩

set_option maxHeartbeats 1600000 in
set_option maxRecDepth 100000 in
theorem check_any2 (m : Mod) (l : List Sto) (vs cs v : Value) (w : World) (hm : MArg w vs cs m) (hv : GArg w v l) :
    Calls Tryz.prog 98 #[modV vs cs m, v] w fun e w' => e = .returned (.int .i64 (checkL m l)) ∧ Below w.heap.size w w' := by
  have HMA : Hid (∀ w' : World, Below w.heap.size w w' → MArg w' vs cs m) := fun w' h => MArg.below h hm
  have HGA : Hid (∀ w' : World, Below w.heap.size w w' → GArg w' v l) := fun w' h => GArg.below h hv
  obtain ⟨⟨a1, c1, rfl, _, _⟩, ⟨a2, c2, rfl, _, _⟩⟩ := hm
  obtain ⟨a3, c3, rfl, hl3, _⟩ := hv
  unfold maxLen at hl3
  obtain ⟨hl31, hl3⟩ := hl3
  obtain ⟨R, hR⟩ : ∃ R, checkL m l = R := ⟨_, rfl⟩
  rw [hR]
  obtain ⟨er, her⟩ : ∃ er, checkM m = er := ⟨_, rfl⟩
  have HER : Hid (checkM m = er) := her
  have HE : Hid (R = if er = 0 then firstE (l.map (checkV m.vars)) else er) := by rw [← hR, ← her]; rfl
  clear hR her
  unfold modV
  go_enter Tryz.func98, Tryz.ntmps98
  go_wp2_with fail
  refine (check_model m _ _ _ (HMA.out _ (below_alloc _ _))).mono ?_
  rintro e w1 ⟨rfl, hb1⟩
  rw [HER.out]
  have d0 : w1.cell? ⟨w.heap.size, 0, none⟩ = some (.slice a1 m.vars.length c1) := (hb1.cell (by simp)).trans (by simp)
  have HB1 : Hid (Below w.heap.size w w1) := (below_alloc _ _).trans (hb1.mono (by simp))
  have hs1 : w.heap.size + 1 ≤ w1.heap.size := by simpa using hb1.size
  clear hb1
  by_cases he : er = 0
  · subst he
    have HE2 : Hid (R = firstE (l.map (checkV m.vars))) := by rw [HE.out, if_pos rfl]; rfl
    go_wp2_with fail
    go_loopw [16] (fun i wr => ∃ k : Nat, k ≤ l.length ∧ i = .int .i64 k ∧ Hid (firstE ((l.map (checkV m.vars)).take k) = 0) ∧ Below w1.heap.size w1 wr) (fun i _ => l.length - (intOf i).toNat)
    case atStart => exact ⟨0, by omega, rfl, rfl, Below.refl _ _⟩
    case round =>
      obtain ⟨k, hk, rfl, hno, hbw⟩ := hrel
      have HBW : Hid (Below w.heap.size w wr) := HB1.out.trans (hbw.mono (by omega))
      have e0 := (hbw.cell (p := ⟨w.heap.size, 0, none⟩) (by simp only; omega)).trans d0
      by_cases hlt : k < l.length
      · obtain ⟨s, hs⟩ : ∃ s, l[k]? = some s := ⟨l[k], by simp [hlt]⟩
        have HG : Hid ((l.map (checkV m.vars))[k]? = some (checkV m.vars s)) := by show _ = _; rw [List.getElem?_map, hs]; rfl
        obtain ⟨a2', c2', hva, _, hrc⟩ := HGA.out _ HBW.out
        obtain ⟨b, off, x, hax, hb, hc, hix⟩ := hrc k s hs
        have ha2 : a3 = some ⟨b, off, none⟩ := by cases hva; exact hax
        subst ha2
        have HIX : Hid (RArg wr x s) := hix
        obtain ⟨a4, c4, rfl, _, _⟩ := hix
        clear hs hva hrc hax
        go_wp2_with fail
        refine (values_any m.vars s _ _ _ (HMA.out _ HBW.out).1 HIX.out).mono ?_
        rintro e w2 ⟨rfl, hb2⟩
        obtain ⟨eq, heq⟩ : ∃ eq, checkV m.vars s = eq := ⟨_, rfl⟩
        have HG2 : Hid ((l.map (checkV m.vars))[k]? = some eq) := by rw [← heq]; exact HG.out
        rw [heq]
        clear heq
        have hbt : Below w1.heap.size w1 w2 := hbw.trans (hb2.mono hbw.size)
        by_cases hz : eq = 0
        · subst hz
          have HN : Hid (firstE ((l.map (checkV m.vars)).take (k + 1)) = 0) := firstE_step _ k hno.out HG2.out
          clear hb2
          go_wp2
          go_roundw
          case rel => exact ⟨k + 1, by omega, by go_num, HN, hbt⟩
          case measure => simp [intOf]; omega
        · have HN : Hid (R = eq) := by rw [HE2.out]; exact firstE_hit _ k eq hno.out HG2.out hz
          have he2 : (eq != 0) = true := by simpa using hz
          clear hb2 hz
          go_wp2
          go_ret
          exact ⟨ret_int HN.out.symm, HB1.out.trans (hbt.mono (by omega))⟩
      · have HN : Hid (R = 0) := by
          have := hno.out; rw [List.take_of_length_le (by simp; omega)] at this; rw [HE2.out]; exact this
        go_wp2
        go_ret
        exact ⟨ret_int HN.out.symm, HBW.out⟩
  · have HN : Hid (R = er) := by rw [HE.out, if_neg he]; rfl
    have he2 : (er != 0) = true := by simpa using he
    clear he
    go_wp2
    go_ret
    exact ⟨ret_int HN.out.symm, HB1.out⟩
end Go.Proofs.YtijohkhpigjbkaeGreatDoor
/-
  WALKS: package store: Check, Within, Failed.
-/
namespace Go.Proofs.YtijohkhpigjbkaeGreatDoor
open Go.RowKit

/-- One store, or two, in a row of their own. -/
theorem garg_one {w : World} {v : Value} {s : Sto} {B : Nat} (hB : B = w.heap.size) (h : RArg w v s) : GArg (w.alloc (.cells #[v] 27)) (.slice (some ⟨B, 0, none⟩) 1 1) [s] := by
  subst hB
  refine ⟨_, 1, rfl, ⟨by simp, by unfold maxLen; omega⟩, fun i r hr => ?_⟩
  match i, hr with
  | 0, hr => cases hr; exact ⟨_, _, v, rfl, by simp, by simp, RArg.below (below_alloc _ _) h⟩
theorem garg_two {w : World} {v u : Value} {s t : Sto} {B : Nat} (hB : B = w.heap.size) (h : RArg w v s) (k : RArg w u t) : GArg (w.alloc (.cells #[v, u] 27)) (.slice (some ⟨B, 0, none⟩) 2 2) [s, t] := by
  subst hB
  refine ⟨_, 2, rfl, ⟨by simp, by unfold maxLen; omega⟩, fun i r hr => ?_⟩
  match i, hr with
  | 0, hr => cases hr; exact ⟨_, _, v, rfl, by simp, by simp, RArg.below (below_alloc _ _) h⟩
  | 1, hr => cases hr; exact ⟨_, _, u, rfl, by simp, by simp, RArg.below (below_alloc _ _) k⟩

set_option maxHeartbeats 800000 in
set_option maxRecDepth 100000 in
theorem scheck_any (m : Mod) (s : Sto) (vs cs v : Value) (w : World) (hm : MArg w vs cs m) (hv : RArg w v s) :
    Calls Tryz.prog 153 #[modV vs cs m, v] w fun e w' => e = .returned (.int .i64 (checkL m [s])) ∧ Below w.heap.size w w' := by
  have HMA : Hid (∀ w' : World, Below w.heap.size w w' → MArg w' vs cs m) := fun w' h => MArg.below h hm
  have HVA : Hid (∀ w' : World, Below w.heap.size w w' → RArg w' v s) := fun w' h => RArg.below h hv
  obtain ⟨⟨a1, c1, rfl, _, _⟩, ⟨a2, c2, rfl, _, _⟩⟩ := hm
  obtain ⟨a3, c3, rfl, _, _⟩ := hv
  obtain ⟨R, HR⟩ : ∃ R, Hid (checkL m [s] = R) := ⟨_, rfl⟩
  rw [HR.out]
  unfold modV
  go_enter Tryz.func153, Tryz.ntmps153
  go_wp2_with fail
  refine (check_any2 m [s] (.slice a1 m.vars.length c1) (.slice a2 m.cons.length c2) _ _ ?_ ?_).mono ?_
  · exact HMA.out _ ((below_alloc _ _).alloc (by simp) _)
  · exact garg_one (by simp) (HVA.out _ (below_alloc _ _))
  rintro e w1 ⟨rfl, hb1⟩
  rw [HR.out]
  have hb : Below w.heap.size w w1 := (((below_alloc _ _).alloc (by simp) _)).trans (hb1.mono (by simp; omega))
  clear hb1
  go_wp2
  go_ret
  exact ⟨rfl, hb⟩

def withinA (m : Mod) (s t : Sto) : Bool × Int := if checkL m [s, t] = 0 then (withinS s t, 0) else (false, checkL m [s, t])
theorem checkL_two (m : Mod) (s t : Sto) : checkL m [s, t] = 0 ↔ checkM m = 0 ∧ checkV m.vars s = 0 ∧ checkV m.vars t = 0 := by
  unfold checkL
  by_cases h : checkM m = 0
  · rw [if_pos h]
    simp only [List.map, firstE]
    by_cases h1 : checkV m.vars s = 0
    · rw [if_pos h1]
      by_cases h2 : checkV m.vars t = 0
      · simp [h, h1, h2]
      · simp [h2]
    · simp [h1]
  · rw [if_neg h]; simp [h]

set_option maxHeartbeats 400000 in
theorem empty_any (r : List Int) (v : Value) (w : World) (hv : IArg w v r) :
    Calls Tryz.prog 111 #[v] w fun e w' => e = .returned (.bool (decide (r.length = 0))) ∧ w' = w := by
  obtain ⟨a, c, rfl, _, _⟩ := hv
  by_cases h : r.length = 0
  · have g : ((r.length : Int) == 0) = true := by simp [h]
    have h1 : decide (r.length = 0) = true := decide_eq_true h
    rw [h1]; clear h h1
    go_enter Tryz.func111, Tryz.ntmps111
    go_wp2
    go_ret
    exact ⟨rfl, rfl⟩
  · have g : ((r.length : Int) == 0) = false := by simpa using h
    have h1 : decide (r.length = 0) = false := decide_eq_false h
    rw [h1]; clear h h1
    go_enter Tryz.func111, Tryz.ntmps111
    go_wp2
    go_ret
    exact ⟨rfl, rfl⟩

set_option maxHeartbeats 800000 in
set_option maxRecDepth 100000 in
theorem indexf_empty (s : Sto) (v : Value) (w : World) (hv : RArg w v s) :
    Calls Tryz.prog 158 #[v, .func (.func 111) #[] #[]] w fun e w' => (∃ z : Int, e = .returned (.int .i64 z) ∧ decide (0 ≤ z) = failedS s) ∧ w' = w := by
  obtain ⟨a, c, rfl, hm, hr⟩ := hv
  have HV : Hid (∀ (i : Nat) (r : List Int), s[i]? = some r → ∃ b off x, a = some ⟨b, off, none⟩ ∧ b < w.heap.size ∧ w.cell? ⟨b, off + i, none⟩ = some x ∧ IArg w x r) := hr
  obtain ⟨R, hR⟩ : ∃ R, failedS s = R := ⟨_, rfl⟩
  rw [hR]
  have HR : Hid ((s.any fun r => decide (r.length = 0)) = R) := hR
  unfold maxLen at hm
  obtain ⟨hm1, hm⟩ := hm
  clear hr hR
  go_enter Tryz.func158, Tryz.ntmps158
  go_wp2_with fail
  go_loop [8] (fun i => ∃ m : Nat, m ≤ s.length ∧ i = .int .i64 m ∧ Hid ((s.take m).any (fun r => decide (r.length = 0)) = false)) (fun i => s.length - (intOf i).toNat)
  case atStart => exact ⟨0, by omega, rfl, rfl⟩
  case round =>
    obtain ⟨m, hml, rfl, hall⟩ := hrel
    by_cases hlt : m < s.length
    · obtain ⟨r, hz⟩ : ∃ r, s[m]? = some r := ⟨s[m], by simp [hlt]⟩
      obtain ⟨b, off, x, ha, hb, hc, hx⟩ := HV.out m r hz
      have HX : Hid (IArg w x r) := hx
      obtain ⟨a5, c5, rfl, _, _⟩ := hx
      have HZ : Hid (s[m]? = some r) := hz
      subst ha
      clear hz
      cases hq : decide (r.length = 0)
      · have HN : Hid ((s.take (m + 1)).any (fun r => decide (r.length = 0)) = false) := any_next (fun r : List Int => decide (r.length = 0)) s m r HZ.out hall.out hq
        have HQ : Hid (decide (r.length = 0) = false) := hq
        clear hq
        go_wp2_with fail
        refine (empty_any r _ _ HX.out).mono ?_
        rintro e w ⟨rfl, rfl⟩
        rw [HQ.out]
        go_wp2
        go_round
        case rel => exact ⟨m + 1, by omega, by go_num, HN⟩
        case measure => simp [intOf]; omega
      · have HN : Hid (R = true) := by rw [← HR.out]; exact any_hit (fun r : List Int => decide (r.length = 0)) s m r HZ.out hq
        have HQ : Hid (decide (r.length = 0) = true) := hq
        clear hq
        go_wp2_with fail
        refine (empty_any r _ _ HX.out).mono ?_
        rintro e w ⟨rfl, rfl⟩
        rw [HQ.out]
        go_wp2
        go_ret
        exact ⟨⟨_, rfl, by rw [HN.out]; simp⟩, rfl⟩
    · have HN : Hid (R = false) := by rw [← HR.out]; exact any_end _ s m hlt hall.out
      go_wp2
      go_ret
      exact ⟨⟨_, rfl, by rw [HN.out]; rfl⟩, rfl⟩

set_option maxHeartbeats 400000 in
theorem containsf_empty (s : Sto) (v : Value) (w : World) (hv : RArg w v s) :
    Calls Tryz.prog 110 #[v, .func (.func 111) #[] #[]] w fun e w' => e = .returned (.bool (failedS s)) ∧ w' = w := by
  go_enter Tryz.func110, Tryz.ntmps110
  go_wp2_with fail
  refine (indexf_empty s v _ hv).mono ?_
  rintro e w ⟨⟨z, rfl, hz⟩, rfl⟩
  have HZ : Hid (decide (0 ≤ z) = failedS s) := hz
  clear hz
  go_wp2
  go_ret
  exact ⟨ret_bool HZ.out, rfl⟩

set_option maxHeartbeats 400000 in
theorem sift_failed (s : Sto) (v : Value) (w : World) (hv : RArg w v s) :
    Calls Tryz.prog 59 #[v] w fun e w' => e = .returned (.bool (failedS s)) ∧ w' = w := by
  go_enter Tryz.func59, Tryz.ntmps59
  go_wp2_with fail
  refine (containsf_empty s v _ hv).mono ?_
  rintro e w ⟨rfl, rfl⟩
  go_wp2
  go_ret
  exact ⟨rfl, rfl⟩

def failedA (m : Mod) (s : Sto) : Bool × Int := if checkL m [s] = 0 then (failedS s, 0) else (false, checkL m [s])
set_option maxHeartbeats 800000 in
set_option maxRecDepth 100000 in
theorem sfailed_any (m : Mod) (s : Sto) (vs cs v : Value) (w : World) (hm : MArg w vs cs m) (hv : RArg w v s) :
    Calls Tryz.prog 53 #[modV vs cs m, v] w fun e w' => e = .returned (.tuple #[.bool (failedA m s).1, .int .i64 (failedA m s).2]) ∧ Below w.heap.size w w' := by
  have HMA : Hid (∀ w' : World, Below w.heap.size w w' → MArg w' vs cs m) := fun w' h => MArg.below h hm
  have HVA : Hid (∀ w' : World, Below w.heap.size w w' → RArg w' v s) := fun w' h => RArg.below h hv
  obtain ⟨⟨a1, c1, rfl, _, _⟩, ⟨a2, c2, rfl, _, _⟩⟩ := hm
  obtain ⟨a3, c3, rfl, _, _⟩ := hv
  obtain ⟨R, hR⟩ : ∃ R, failedA m s = R := ⟨_, rfl⟩
  rw [hR]
  obtain ⟨er, her⟩ : ∃ er, checkL m [s] = er := ⟨_, rfl⟩
  have HER : Hid (checkL m [s] = er) := her
  have HE : Hid (R = if er = 0 then (failedS s, 0) else (false, er)) := by rw [← hR, ← her]; rfl
  clear hR her
  unfold modV
  go_enter Tryz.func53, Tryz.ntmps53
  go_wp2_with fail
  refine (check_any2 m [s] (.slice a1 m.vars.length c1) (.slice a2 m.cons.length c2) _ _ ?_ ?_).mono ?_
  · exact HMA.out _ ((below_alloc _ _).alloc (by simp) _)
  · exact garg_one (by simp) (HVA.out _ (below_alloc _ _))
  rintro e w1 ⟨rfl, hb1⟩
  rw [HER.out]
  have HB1 : Hid (Below w.heap.size w w1) := (((below_alloc _ _).alloc (by simp) _)).trans (hb1.mono (by simp; omega))
  clear hb1
  by_cases he : er = 0
  · subst he
    have HE2 : Hid (R = (failedS s, 0)) := by rw [HE.out, if_pos rfl]; rfl
    go_wp2_with fail
    refine (sift_failed s _ _ (HVA.out _ HB1.out)).mono ?_
    rintro e w1 ⟨rfl, rfl⟩
    go_wp2
    go_ret2
    exact ⟨by rw [HE2.out]; rfl, HB1.out⟩
  · have HN : Hid (R = (false, er)) := by rw [HE.out, if_neg he]; rfl
    have he2 : (er != 0) = true := by simpa using he
    clear he
    go_wp2
    go_ret2
    exact ⟨by rw [HN.out]; rfl, HB1.out⟩
end Go.Proofs.YtijohkhpigjbkaeGreatDoor
/-
  WALKS: package fence: Whole, Stored, Held, Says.
-/
namespace Go.Proofs.YtijohkhpigjbkaeGreatDoor
open Go.RowKit

set_option maxHeartbeats 400000 in
theorem wholes_any (x y : Value) (w : World) : Calls Tryz.prog 139 #[x, y] w fun e w' => e = .returned (.bool true) ∧ Below w.heap.size w w' := by
  go_enter Tryz.func139, Tryz.ntmps139
  go_wp2
  go_ret
  exact ⟨rfl, Below.refl _ _⟩
theorem enters_whole (args : Array Value) (w' : World) : Sem.run Tryz.prog (callFunc 139 args) w' = .ok (.enter 139 args) w' := by
  simp [callFunc, go_sem, Tryz.func139, Tryz.f139]
set_option maxHeartbeats 400000 in
theorem whole_any (vs : List MVar) (hva : VarsAll vs) (sv : Value) (w : World) (hv : VArg w sv vs) :
    Calls Tryz.prog 79 #[sv] w fun e w' => e = .returned (.int .u64 ((wholeP vs : Nat) : Int)) ∧ Below w.heap.size w w' := by
  have HV : Hid (VArg w sv vs) := hv
  have HVO : Hid (VarsAll vs) := hva
  obtain ⟨a, c, rfl, _, _⟩ := hv
  clear hva
  go_enter Tryz.func79, Tryz.ntmps79
  go_wp2_with fail
  refine (of_any 139 #[] vs (fun _ _ => true) HVO.out _ _ HV.out ⟨enters_whole, fun k z w' _ _ _ _ => wholes_any _ _ w'⟩).mono ?_
  rintro e w1 ⟨rfl, hb1⟩
  go_wp2
  go_ret
  exact ⟨rfl, hb1⟩

set_option maxHeartbeats 400000 in
theorem stored_one (s : Sto) (k : Nat) (r : List Int) (z : Int) (u : Value) (b1 : Nat) (w : World) (hu : RArg w u s) (hr : s[k]? = some r) (h1 : w.cell? ⟨b1, 0, none⟩ = some u) :
    Calls Tryz.prog 140 #[.int .i64 k, .int .i64 z, .pointer (some ⟨b1, 0, none⟩)] w fun e w' => e = .returned (.bool (hasB r z)) ∧ Below w.heap.size w w' := by
  obtain ⟨a, c, rfl, hm, hrr⟩ := hu
  obtain ⟨b, off, x, rfl, hb, hc, hix⟩ := hrr k r hr
  have HIX : Hid (IArg w x r) := hix
  obtain ⟨a2, c2, rfl, _, _⟩ := hix
  have hk : k < s.length := (List.getElem?_eq_some_iff.1 hr).1
  unfold maxLen at hm
  obtain ⟨hm1, hm⟩ := hm
  clear hrr hr
  go_enter Tryz.func140, Tryz.ntmps140
  go_wp2_with fail
  refine (contains_ints r _ z _ HIX.out).mono ?_
  rintro e w ⟨rfl, rfl⟩
  go_wp2
  go_ret
  exact ⟨rfl, Below.refl _ _⟩
theorem enters_stored (args : Array Value) (w' : World) : Sem.run Tryz.prog (callFunc 140 args) w' = .ok (.enter 140 args) w' := by
  simp [callFunc, go_sem, Tryz.func140, Tryz.f140]
set_option maxHeartbeats 400000 in
theorem stored_any (vs : List MVar) (hva : VarsAll vs) (s : Sto) (hs : s.length = vs.length) (sv u : Value) (w : World) (hv : VArg w sv vs) (hu : RArg w u s) :
    Calls Tryz.prog 80 #[sv, u] w fun e w' => e = .returned (.int .u64 ((storedP vs s : Nat) : Int)) ∧ Below w.heap.size w w' := by
  have HV : Hid (∀ w', Below w.heap.size w w' → VArg w' sv vs) := fun w' h => VArg.below h hv
  have HU : Hid (∀ w', Below w.heap.size w w' → RArg w' u s) := fun w' h => RArg.below h hu
  have HVO : Hid (VarsAll vs) := hva
  have HS : Hid (s.length = vs.length) := hs
  obtain ⟨a, c, rfl, _, _⟩ := hv
  obtain ⟨a2, c2, rfl, _, _⟩ := hu
  clear hva hs
  go_enter Tryz.func80, Tryz.ntmps80
  go_wp2_with fail
  refine (of_any 140 _ vs (fun v x => hasB (s.getD v []) x) HVO.out _ _ (HV.out _ (below_alloc _ _)) ⟨enters_stored, fun k z w' hk _ _ hb' => ?_⟩).mono ?_
  · have hks : k < s.length := by rw [HS.out]; exact hk
    have hr : s[k]? = some (s.getD k []) := by rw [List.getD_eq_getElem?_getD, List.getElem?_eq_getElem hks]; rfl
    exact stored_one s k _ z _ w.heap.size w' (HU.out _ ((below_alloc _ _).trans (hb'.mono (by simp)))) hr ((hb'.cell (by simp)).trans (World.cell?_alloc_at _ _ _ 0 (by simp)))
  rintro e w1 ⟨rfl, hb1⟩
  have hb2 : Below w.heap.size w w1 := (below_alloc _ _).trans (hb1.mono (by simp))
  clear hb1
  go_wp2
  go_ret
  exact ⟨rfl, hb2⟩

set_option maxHeartbeats 400000 in
theorem held_one (c : Cla) (k : Nat) (z : Int) (u : Value) (b1 : Nat) (w : World) (hu : LArg w u c) (h1 : w.cell? ⟨b1, 0, none⟩ = some u) :
    Calls Tryz.prog 150 #[.int .i64 k, .int .i64 z, .pointer (some ⟨b1, 0, none⟩)] w fun e w' => e = .returned (.bool (oneB c k z)) ∧ Below w.heap.size w w' := by
  have HU : Hid (LArg w u c) := hu
  obtain ⟨a, cc, rfl, _, _⟩ := hu
  go_enter Tryz.func150, Tryz.ntmps150
  go_wp2_with fail
  refine (one_of c k z _ _ HU.out).mono ?_
  rintro e w1 ⟨rfl, hb1⟩
  go_wp2
  go_ret
  exact ⟨rfl, hb1⟩
theorem enters_held (args : Array Value) (w' : World) : Sem.run Tryz.prog (callFunc 150 args) w' = .ok (.enter 150 args) w' := by
  simp [callFunc, go_sem, Tryz.func150, Tryz.f150]
set_option maxHeartbeats 400000 in
theorem held_any (vs : List MVar) (hva : VarsAll vs) (cl : Cla) (sv u : Value) (w : World) (hv : VArg w sv vs) (hu : LArg w u cl) :
    Calls Tryz.prog 87 #[sv, u] w fun e w' => e = .returned (.int .u64 ((heldP vs cl : Nat) : Int)) ∧ Below w.heap.size w w' := by
  have HV : Hid (∀ w', Below w.heap.size w w' → VArg w' sv vs) := fun w' h => VArg.below h hv
  have HU : Hid (∀ w', Below w.heap.size w w' → LArg w' u cl) := fun w' h => LArg.below h hu
  have HVO : Hid (VarsAll vs) := hva
  obtain ⟨a, c, rfl, _, _⟩ := hv
  obtain ⟨a2, c2, rfl, _, _⟩ := hu
  clear hva
  go_enter Tryz.func87, Tryz.ntmps87
  go_wp2_with fail
  refine (of_any 150 _ vs (fun v x => oneB cl v x) HVO.out _ _ (HV.out _ (below_alloc _ _)) ⟨enters_held, fun k z w' hk _ _ hb' => ?_⟩).mono ?_
  · exact held_one cl k z _ w.heap.size w' (HU.out _ ((below_alloc _ _).trans (hb'.mono (by simp)))) ((hb'.cell (by simp)).trans (World.cell?_alloc_at _ _ _ 0 (by simp)))
  rintro e w1 ⟨rfl, hb1⟩
  have hb2 : Below w.heap.size w w1 := (below_alloc _ _).trans (hb1.mono (by simp))
  clear hb1
  go_wp2
  go_ret
  exact ⟨rfl, hb2⟩

/-- A list of parts. -/
def PArg (w : World) (v : Value) (l : List Nat) : Prop :=
  ∃ a c, v = .slice a l.length c ∧ (l.length ≤ c ∧ c ≤ maxLen) ∧ ∀ (i z : Nat), l[i]? = some z → z < 2 ^ 36 ∧ ∃ b off, a = some ⟨b, off, none⟩ ∧ b < w.heap.size ∧ w.cell? ⟨b, off + i, none⟩ = some (.int .u64 z)
theorem PArg.below {w w' : World} {v : Value} {l : List Nat} (hb : Below w.heap.size w w') (h : PArg w v l) : PArg w' v l := by
  obtain ⟨a, c, hv, hm, hr⟩ := h
  refine ⟨a, c, hv, hm, fun i z hz => ?_⟩
  obtain ⟨hz36, b, off, ha, hlt, hc⟩ := hr i z hz
  exact ⟨hz36, b, off, ha, Nat.lt_of_lt_of_le hlt hb.size, (hb.cell (p := ⟨b, off + i, none⟩) hlt).trans hc⟩

set_option maxHeartbeats 400000 in
theorem stays_one (p h : Nat) (hp : p < 2 ^ 36) (hh : h < 2 ^ 36) (b1 : Nat) (w : World) (h1 : w.cell? ⟨b1, 0, none⟩ = some (.int .u64 h)) :
    Calls Tryz.prog 147 #[.int .u64 p, .pointer (some ⟨b1, 0, none⟩)] w fun e w' => e = .returned (.bool (stayP h p)) ∧ w' = w := by
  have hb := bits_and_u64_nat p h (by omega) (by omega)
  have HN : Hid (stayP h p = (((p &&& h : Nat) : Int) == 0)) := by
    show _ = _
    unfold stayP
    by_cases h0 : p &&& h = 0
    · simp [h0]
    · have : (((p &&& h : Nat) : Int) == 0) = false := by simpa using h0
      rw [this]; simpa using h0
  rw [HN.out]
  obtain ⟨q, hq⟩ : ∃ q, p &&& h = q := ⟨_, rfl⟩
  rw [hq] at hb ⊢
  clear hq hp hh
  go_enter Tryz.func147, Tryz.ntmps147
  go_wp2
  go_ret
  exact ⟨rfl, rfl⟩
theorem enters_stays1 (args : Array Value) (w' : World) : Sem.run Tryz.prog (callFunc 147 args) w' = .ok (.enter 147 args) w' := by
  simp [callFunc, go_sem, Tryz.func147, Tryz.f147]

set_option maxHeartbeats 400000 in
set_option maxRecDepth 100000 in
theorem indexf_parts (h : Nat) (hh : h < 2 ^ 36) (b1 : Nat) (l : List Nat) (v : Value) (w : World) (hv : PArg w v l) (h1 : w.cell? ⟨b1, 0, none⟩ = some (.int .u64 h)) :
    Calls Tryz.prog 194 #[v, .func (.func 147) #[] #[.pointer (some ⟨b1, 0, none⟩)]] w fun e w' => (∃ z : Int, e = .returned (.int .i64 z) ∧ (decide (0 ≤ z)) = l.any (stayP h)) ∧ w' = w := by
  obtain ⟨a, c, rfl, hm, hr⟩ := hv
  have HV : Hid (∀ (i z : Nat), l[i]? = some z → z < 2 ^ 36 ∧ ∃ b off, a = some ⟨b, off, none⟩ ∧ b < w.heap.size ∧ w.cell? ⟨b, off + i, none⟩ = some (.int .u64 z)) := hr
  have HH : Hid (h < 2 ^ 36) := hh
  unfold maxLen at hm
  obtain ⟨hm1, hm⟩ := hm
  clear hr hh
  go_enter Tryz.func194, Tryz.ntmps194
  go_wp2_with fail
  go_loopw [8] (fun i wr => ∃ k : Nat, k ≤ l.length ∧ i = .int .i64 k ∧ Hid ((l.take k).any (stayP h) = false) ∧ wr = w) (fun i _ => l.length - (intOf i).toNat)
  case atStart => exact ⟨0, by omega, rfl, rfl, rfl⟩
  case round =>
    obtain ⟨k, hk, rfl, hall, rfl⟩ := hrel
    by_cases hlt : k < l.length
    · obtain ⟨z, hz⟩ : ∃ z, l[k]? = some z := ⟨l[k], by simp [hlt]⟩
      obtain ⟨hz36, b, off, ha, hb, hc⟩ := HV.out k z hz
      subst ha
      have HZ : Hid (l[k]? = some z) := hz
      have HZ36 : Hid (z < 2 ^ 36) := hz36
      clear hz hz36
      cases hq : stayP h z
      · have HN : Hid ((l.take (k + 1)).any (stayP h) = false) := by show _ = _; rw [List.take_add_one, HZ.out, List.any_append, hall.out]; simp [hq]
        have HC := stays_one z h HZ36.out HH.out b1 wr h1
        rw [hq] at HC
        have HC2 : Hid (Calls Tryz.prog 147 #[.int .u64 z, .pointer (some ⟨b1, 0, none⟩)] wr fun e w' => e = .returned (.bool false) ∧ w' = wr) := HC
        clear HC hq hall
        go_wp2_with fail
        refine HC2.out.mono ?_
        rintro e w ⟨rfl, rfl⟩
        go_wp2
        go_roundw
        case rel => exact ⟨k + 1, by omega, by go_num, HN, trivial⟩
        case measure => simp [intOf]; omega
      · have HN : Hid (l.any (stayP h) = true) := List.any_eq_true.2 ⟨z, List.mem_of_getElem? HZ.out, hq⟩
        have HC := stays_one z h HZ36.out HH.out b1 wr h1
        rw [hq] at HC
        have HC2 : Hid (Calls Tryz.prog 147 #[.int .u64 z, .pointer (some ⟨b1, 0, none⟩)] wr fun e w' => e = .returned (.bool true) ∧ w' = wr) := HC
        clear HC hq hall
        go_wp2_with fail
        refine HC2.out.mono ?_
        rintro e w ⟨rfl, rfl⟩
        go_wp2
        go_ret
        exact ⟨⟨k, rfl, by rw [HN.out]; simp⟩, rfl⟩
    · have hke : k = l.length := by omega
      have HN : Hid (l.any (stayP h) = false) := by have := hall.out; rw [hke, List.take_length] at this; exact this
      clear hall hke
      go_wp2
      go_ret
      exact ⟨⟨-1, rfl, by rw [HN.out]; simp⟩, rfl⟩
set_option maxHeartbeats 400000 in
theorem containsf_parts (h : Nat) (hh : h < 2 ^ 36) (b1 : Nat) (l : List Nat) (v : Value) (w : World) (hv : PArg w v l) (h1 : w.cell? ⟨b1, 0, none⟩ = some (.int .u64 h)) :
    Calls Tryz.prog 149 #[v, .func (.func 147) #[] #[.pointer (some ⟨b1, 0, none⟩)]] w fun e w' => e = .returned (.bool (l.any (stayP h))) ∧ w' = w := by
  have HV : Hid (PArg w v l) := hv
  have HH : Hid (h < 2 ^ 36) := hh
  obtain ⟨a, c, rfl, _, _⟩ := hv
  clear hh
  go_enter Tryz.func149, Tryz.ntmps149
  go_wp2_with fail
  refine (indexf_parts h HH.out b1 l _ _ HV.out h1).mono ?_
  rintro e w ⟨⟨z, rfl, hz⟩, rfl⟩
  have HZ : Hid (decide (0 ≤ z) = l.any (stayP h)) := hz
  clear hz
  go_wp2
  go_ret
  exact ⟨ret_bool HZ.out, rfl⟩
end Go.Proofs.YtijohkhpigjbkaeGreatDoor
/-
  PLAIN: reasons: the bits of a part, what can be spared of it; that a reason holds where the constraint does.
-/
namespace Go.Proofs.YtijohkhpigjbkaeGreatDoor

/-- The bits of a part, from the least on. -/
def bitsL (p : Nat) : List Nat := (List.range 36).filter fun i => p.testBit i
theorem low_form (x : Nat) (h0 : x ≠ 0) (h : x < 2 ^ 64) : ∃ m, x = 2 ^ (Lib.ctz 64 x + 1) * m + 2 ^ Lib.ctz 64 x ∧ Lib.ctz 64 x < 64 := by
  obtain ⟨m, h1, h2⟩ := Lib.ctzFrom_spec 64 x (by omega) h
  have e : Lib.ctz 64 x = Lib.ctzFrom 64 x := by unfold Lib.ctz; rw [if_neg h0]
  rw [e]
  refine ⟨m, ?_, h2⟩
  conv => lhs; rw [h1]
  rw [Nat.pow_succ, Nat.mul_add, Nat.mul_one, Nat.mul_assoc]
theorem low_bits (x : Nat) (h0 : x ≠ 0) (h : x < 2 ^ 64) (i : Nat) : (i < Lib.ctz 64 x → x.testBit i = false) ∧ (i = Lib.ctz 64 x → x.testBit i = true) ∧ (x &&& (x - 1)).testBit i = (x.testBit i && !decide (i = Lib.ctz 64 x)) := by
  obtain ⟨m, h1, _⟩ := low_form x h0 h
  generalize hk : Lib.ctz 64 x = k at h1
  have hp : 0 < 2 ^ k := Nat.pow_pos (by omega)
  have hlt : 2 ^ k < 2 ^ (k + 1) := by rw [Nat.pow_succ]; omega
  have h2 : x - 1 = 2 ^ (k + 1) * m + (2 ^ k - 1) := by omega
  have t1 : x.testBit i = if i < k + 1 then decide (k = i) else m.testBit (i - (k + 1)) := by
    rw [h1, Nat.testBit_two_pow_mul_add _ hlt]
    split
    · exact testBit_pow k i
    · rfl
  have t2 : (x - 1).testBit i = if i < k + 1 then decide (i < k) else m.testBit (i - (k + 1)) := by
    rw [h2, Nat.testBit_two_pow_mul_add _ (by omega)]
    split
    · exact Nat.testBit_two_pow_sub_one ..
    · rfl
  refine ⟨fun hi => ?_, fun hi => ?_, ?_⟩
  · rw [t1, if_pos (by omega)]; simp; omega
  · rw [t1, if_pos (by omega)]; simp; omega
  · rw [Nat.testBit_and, t1, t2]
    by_cases hi : i < k + 1
    · rw [if_pos hi, if_pos hi]
      by_cases he : k = i
      · subst he; simp
      · simp [he]
    · rw [if_neg hi, if_neg hi, show decide (i = k) = false by simp; omega]; simp
theorem low_less (x : Nat) (h0 : x ≠ 0) (h : x < 2 ^ 64) : x &&& (x - 1) < x := by
  have h1 := low_bits x h0 h
  have hle : x &&& (x - 1) ≤ x := Nat.and_le_left
  have : x &&& (x - 1) ≠ x := fun he => by
    have h2 := (h1 (Lib.ctz 64 x)).2.2
    rw [he, (h1 (Lib.ctz 64 x)).2.1 rfl] at h2
    simp at h2
  omega
theorem bitsL_zero : bitsL 0 = [] := by simp [bitsL]
theorem bitsL_step (x : Nat) (h0 : x ≠ 0) (h : x < 2 ^ 36) : bitsL x = Lib.ctz 64 x :: bitsL (x &&& (x - 1)) ∧ Lib.ctz 64 x < 36 := by
  have h64 : x < 2 ^ 64 := Nat.lt_of_lt_of_le h (Nat.pow_le_pow_right (by omega) (by omega))
  have hb := low_bits x h0 h64
  have hk : Lib.ctz 64 x < 36 := by
    apply Classical.byContradiction
    intro hn
    have h1 := (hb (Lib.ctz 64 x)).2.1 rfl
    rw [Nat.testBit_lt_two_pow (Nat.lt_of_lt_of_le h (Nat.pow_le_pow_right (by omega) (by omega)))] at h1
    cases h1
  refine ⟨?_, hk⟩
  generalize hc : Lib.ctz 64 x = k at *
  unfold bitsL
  have hs : List.range 36 = List.range k ++ (k :: (List.range (36 - (k + 1))).map (· + (k + 1))) := by
    have h1 : List.range 36 = List.range ((k + 1) + (36 - (k + 1))) := by congr 1; omega
    rw [h1, List.range_add, List.range_succ, List.append_assoc]
    congr 1
    simp only [List.singleton_append, List.cons.injEq, true_and]
    apply List.map_congr_left
    intro a _
    omega
  rw [hs, List.filter_append, List.filter_append, List.filter_cons, List.filter_cons]
  have e1 : (List.range k).filter (fun i => x.testBit i) = [] := List.filter_eq_nil_iff.2 fun a ha => by
    rw [(hb a).1 (List.mem_range.1 ha)]; simp
  have e2 : (List.range k).filter (fun i => (x &&& (x - 1)).testBit i) = [] := List.filter_eq_nil_iff.2 fun a ha => by
    rw [(hb a).2.2, (hb a).1 (List.mem_range.1 ha)]; simp
  have e3 : x.testBit k = true := (hb k).2.1 rfl
  have e4 : (x &&& (x - 1)).testBit k = false := by rw [(hb k).2.2]; simp
  rw [e1, e2, e3, e4, if_pos rfl, if_neg (by simp), List.nil_append, List.nil_append]
  congr 1
  apply List.filter_congr
  intro a ha
  obtain ⟨b, _, rfl⟩ := List.mem_map.1 ha
  rw [(hb _).2.2, show decide (b + (k + 1) = k) = false by simp; omega]; simp
/-- A part's literals. -/
def litsP (vs : List MVar) (p : Nat) : Cla := (bitsL p).map fun i => ⟨((i / 6 : Nat) : Int), 3, (varAt vs (i / 6)).lo + ((i % 6 : Nat) : Int)⟩
theorem lits_len (vs : List MVar) (p : Nat) : (litsP vs p).length ≤ 36 := by
  unfold litsP bitsL
  rw [List.length_map]
  exact Nat.le_trans (List.length_filter_le _ _) (by simp)
/-- What can be spared is spared, bit by bit. -/
def spareP (says : Nat → Bool) : Nat → Nat → Nat → Nat
  | 0, gone, _ => gone
  | f + 1, gone, rest => if rest = 0 then gone else spareP says f (if says (lessN gone (2 ^ Lib.ctz 64 rest)) then lessN gone (2 ^ Lib.ctz 64 rest) else gone) (rest &&& (rest - 1))
theorem spare_says (says : Nat → Bool) : ∀ (f gone rest : Nat), says gone = true → says (spareP says f gone rest) = true
  | 0, gone, rest, h => h
  | f + 1, gone, rest, h => by
    unfold spareP
    split
    · exact h
    · apply spare_says
      split
      · assumption
      · exact h
theorem spare_sub (says : Nat → Bool) : ∀ (f gone rest i : Nat), (spareP says f gone rest).testBit i = true → gone.testBit i = true
  | 0, gone, rest, i, h => h
  | f + 1, gone, rest, i, h => by
    unfold spareP at h
    split at h
    · exact h
    · have := spare_sub says f _ _ i h
      split at this
      · rw [testBit_less, Bool.and_eq_true] at this
        exact this.1
      · exact this
theorem spare_fuel (says : Nat → Bool) : ∀ (f g gone rest : Nat), rest < f → rest < g → rest < 2 ^ 64 → spareP says f gone rest = spareP says g gone rest
  | 0, g, gone, rest, hf, hg, _ => by omega
  | f + 1, 0, gone, rest, hf, hg, _ => by omega
  | f + 1, g + 1, gone, rest, hf, hg, h => by
    unfold spareP
    split
    · rfl
    · rename_i h0
      have := low_less rest h0 h
      exact spare_fuel says f g _ _ (by omega) (by omega) (by omega)
theorem spare_step (says : Nat → Bool) (gone rest : Nat) (h0 : rest ≠ 0) (h : rest < 2 ^ 64) : spareP says (rest + 1) gone rest = spareP says ((rest &&& (rest - 1)) + 1) (if says (lessN gone (2 ^ Lib.ctz 64 rest)) then lessN gone (2 ^ Lib.ctz 64 rest) else gone) (rest &&& (rest - 1)) := by
  conv => lhs; unfold spareP
  rw [if_neg h0]
  have := low_less rest h0 h
  exact spare_fuel says _ _ _ _ (by omega) (by omega) (by omega)
def goneP (vs : List MVar) (s : Sto) : Nat := lessN (wholeP vs) (storedP vs s)
def leastP (vs : List MVar) (c : MCon) (s : Sto) (any : Cla) : Nat := spareP (fun g => saysP vs (pointsP vs c) (heldP vs any ||| g)) (goneP vs s + 1) (goneP vs s) (goneP vs s)
theorem bit_at (vs : List MVar) (hv : VarsOk vs) (f : Nat → Int → Bool) (v : Nat) (x : Int) (h : v < vs.length) (h1 : (varAt vs v).lo ≤ x) (h2 : x ≤ (varAt vs v).hi) : (ofP vs f).testBit (6 * v + (x - (varAt vs v).lo).toNat) = f v x := by
  have h3 := hv.2 v
  unfold sizeV at h3
  have e1 : (6 * v + (x - (varAt vs v).lo).toNat) / 6 = v := by omega
  have e2 : (6 * v + (x - (varAt vs v).lo).toNat) % 6 = (x - (varAt vs v).lo).toNat := by omega
  unfold ofP
  rw [testBit_of vs hv, e1, e2, show (varAt vs v).lo + (((x - (varAt vs v).lo).toNat : Nat) : Int) = x by omega]
  have e3 : (x - (varAt vs v).lo).toNat < sizeV (varAt vs v) := by unfold sizeV; omega
  simp [h, e3]
theorem mem_span_iff (lo hi x : Int) : x ∈ spanR lo hi ↔ lo ≤ x ∧ x ≤ hi := by
  refine ⟨fun h => ?_, fun h => mem_span lo hi x h.1 h.2⟩
  unfold spanR at h
  obtain ⟨k, hk, rfl⟩ := List.mem_map.1 h
  have := List.mem_range.1 hk
  omega
/-- Whatever is a point is one of values. -/
theorem points_back (vs : List MVar) (c : MCon) : ∀ (r u : List Int) (a p : Nat), (∀ v ∈ r, 0 ≤ v ∧ v < (vs.length : Int)) → u.length = vs.length → p ∈ pointsN vs c r u a →
    ∃ u' : List Int, u'.length = vs.length ∧ holdsC c u' = true ∧ (∀ v ∈ r, (varAt vs v.toNat).lo ≤ valAt u' v ∧ valAt u' v ≤ (varAt vs v.toNat).hi) ∧ (∀ w : Int, (∀ v ∈ r, v.toNat ≠ w.toNat) → valAt u' w = valAt u w) ∧
      (∀ i, a.testBit i = true → p.testBit i = true) ∧ ∀ v ∈ r, p.testBit (6 * v.toNat + (valAt u' v - (varAt vs v.toNat).lo).toNat) = true
  | [], u, a, p, _, hu, hp => by
    unfold pointsN at hp
    split at hp
    · rename_i hh
      rw [List.mem_singleton.1 hp]
      exact ⟨u, hu, hh, (fun v hv => by cases hv), (fun _ _ => rfl), (fun _ h => h), (fun v hv => by cases hv)⟩
    · cases hp
  | v :: r, u, a, p, hr, hu, hp => by
    unfold pointsN at hp
    obtain ⟨x, hx, hp⟩ := List.mem_flatMap.1 hp
    obtain ⟨h1, h2⟩ := (mem_span_iff _ _ _).1 hx
    obtain ⟨v0, v1⟩ := hr v (List.mem_cons_self ..)
    obtain ⟨u', l1, l2, l3, l4, l5, l6⟩ := points_back vs c r _ _ p (fun y hy => hr y (List.mem_cons_of_mem _ hy)) (by simpa using hu) hp
    have key : (∀ y ∈ r, y.toNat ≠ v.toNat) → valAt u' v = x := fun hq => by rw [l4 v hq, valAt_set_self _ _ _ (by omega)]
    have same : ∀ y ∈ r, y.toNat = v.toNat → y = v := fun y hy he => by
      have := hr y (List.mem_cons_of_mem _ hy)
      omega
    refine ⟨u', l1, l2, fun y hy => ?_, fun w hw => ?_, fun i hi => l5 i (by rw [Nat.testBit_or, hi]; rfl), fun y hy => ?_⟩
    · rcases List.mem_cons.1 hy with rfl | hy
      · by_cases hq : ∃ z ∈ r, z.toNat = y.toNat
        · obtain ⟨z, hz, he⟩ := hq
          rw [← same z hz he]; exact l3 z hz
        · rw [key fun z hz he => hq ⟨z, hz, he⟩]; exact ⟨h1, h2⟩
      · exact l3 y hy
    · rw [l4 w (fun y hy => hw y (List.mem_cons_of_mem _ hy)), valAt_set_ne _ _ _ _ (hw v (List.mem_cons_self ..))]
    · rcases List.mem_cons.1 hy with rfl | hy
      · by_cases hq : ∃ z ∈ r, z.toNat = y.toNat
        · obtain ⟨z, hz, he⟩ := hq
          rw [← same z hz he]; exact l6 z hz
        · rw [key fun z hz he => hq ⟨z, hz, he⟩]
          refine l5 _ ?_
          rw [Nat.testBit_or, testBit_pow]
          simp
      · exact l6 y hy
/-- A constraint says so, if none of its points stays. -/
theorem says_of (vs : List MVar) (c : MCon) (hsc : ∀ v ∈ scopeC c, 0 ≤ v ∧ v < (vs.length : Int)) (h : Nat)
    (hn : ∀ u : List Int, u.length = vs.length → holdsC c u = true → (∀ v ∈ scopeC c, (varAt vs v.toNat).lo ≤ valAt u v ∧ valAt u v ≤ (varAt vs v.toNat).hi) → ((scopeC c).length = 0 → u = zerosOf vs.length) →
      ∃ v ∈ scopeC c, h.testBit (6 * v.toNat + (valAt u v - (varAt vs v.toNat).lo).toNat) = true) : saysP vs (pointsP vs c) h = true := by
  unfold saysP
  have : (pointsP vs c).any (stayP h) = false := by
    cases hq : (pointsP vs c).any (stayP h)
    · rfl
    · obtain ⟨p, hp, hs⟩ := List.any_eq_true.1 hq
      obtain ⟨u, l1, l2, l3, l4, _, l6⟩ := points_back vs c _ _ _ p hsc (by simp [zerosOf]) hp
      obtain ⟨v, hv, hb⟩ := hn u l1 l2 l3 (fun h0 => by
        have he := List.eq_nil_of_length_eq_zero h0
        rw [he] at l4
        refine List.ext_getElem? fun i => ?_
        by_cases hi : i < vs.length
        · have := l4 (i : Int) (fun v hv => by cases hv)
          unfold valAt at this
          rw [Int.toNat_natCast, List.getD_eq_getElem?_getD, List.getD_eq_getElem?_getD, List.getElem?_eq_getElem (by omega), List.getElem?_eq_getElem (by simp [zerosOf]; exact hi)] at this
          rw [List.getElem?_eq_getElem (by omega), List.getElem?_eq_getElem (by simp [zerosOf]; exact hi)]
          exact congrArg some this
        · rw [List.getElem?_eq_none (by omega), List.getElem?_eq_none (by simp [zerosOf]; omega)])
      have h0 : p &&& h = 0 := by simpa [stayP] using hs
      have := congrArg (fun q => Nat.testBit q (6 * v.toNat + (valAt u v - (varAt vs v.toNat).lo).toNat)) h0
      simp only [Nat.testBit_and, l6 v hv, hb, Nat.zero_testBit] at this
      cases this
  rw [this]; simp
theorem gone_at (vs : List MVar) (hv : VarsOk vs) (s : Sto) (v : Nat) (x : Int) (h : v < vs.length) (h1 : (varAt vs v).lo ≤ x) (h2 : x ≤ (varAt vs v).hi) : (goneP vs s).testBit (6 * v + (x - (varAt vs v).lo).toNat) = !hasB (s.getD v []) x := by
  unfold goneP wholeP storedP
  rw [testBit_less, bit_at vs hv _ v x h h1 h2, bit_at vs hv _ v x h h1 h2]; rfl
/-- Where a constraint takes a value, it says so, if all that the store has not is held beside. -/
theorem says_removed (vs : List MVar) (hv : VarsOk vs) (c : MCon) (hsc : ∀ v ∈ scopeC c, 0 ≤ v ∧ v < (vs.length : Int)) (hl : c.kind = 10 → c.lits ≠ []) (s : Sto) (hs : s.length = vs.length) (k : Nat) (any : Cla) (zs : List Int)
    (hz : ∀ z ∈ zs, staysB c s k z = false) (hne : zs ≠ []) (hany : ∀ x, x ∈ s.getD k [] → oneB any k x = false → x ∈ zs) : saysP vs (pointsP vs c) (heldP vs any ||| goneP vs s) = true := by
  have hsc' : ∀ v ∈ scopeC c, 0 ≤ v ∧ v < (s.length : Int) := by rw [hs]; exact hsc
  have hz0 : ∃ z, staysB c s k z = false := by
    match zs, hne with
    | z :: _, _ => exact ⟨z, hz z (List.mem_cons_self ..)⟩
  obtain ⟨z0, hz0⟩ := hz0
  have hf : failedS s = false := by
    cases hf : failedS s
    · rfl
    · rw [stays_failed c s hf] at hz0; cases hz0
  refine says_of vs c hsc _ fun u h1 h2 h3 h4 => ?_
  apply Classical.byContradiction
  intro hno
  by_cases h0 : (scopeC c).length = 0
  · rw [stays_none c s hf h0, hs, ← h4 h0, h2] at hz0
    cases hz0
  · have hk : (k : Int) ∈ scopeC c := by
      apply Classical.byContradiction
      intro hk
      rw [stays_out c s h0 k z0 hk] at hz0
      cases hz0
    have hin : ∀ v ∈ scopeC c, valAt u v ∈ s.getD v.toNat [] ∧ oneB any v.toNat (valAt u v) = false := by
      intro v hvs
      have hr := hsc v hvs
      have hb := h3 v hvs
      cases hq : (heldP vs any ||| goneP vs s).testBit (6 * v.toNat + (valAt u v - (varAt vs v.toNat).lo).toNat)
      · rw [Nat.testBit_or, gone_at vs hv s v.toNat _ (by omega) hb.1 hb.2] at hq
        unfold heldP at hq
        rw [bit_at vs hv _ v.toNat _ (by omega) hb.1 hb.2] at hq
        rw [Bool.or_eq_false_iff] at hq
        refine ⟨(hasB_iff _ _).1 (by simpa using hq.2), hq.1⟩
      · exact absurd ⟨v, hvs, hq⟩ hno
    have hu := hin _ hk
    rw [Int.toNat_natCast] at hu
    have hst := hz _ (hany _ hu.1 hu.2)
    rw [stays_in c s hf k _ hk] at hst
    have : (metAll c s).contains ((k : Int), valAt u (k : Int)) = true := (met_iff c s hsc' hl k _ hk).2 ⟨u, by rw [hs]; exact h1, fun v hvs => (hin v hvs).1, h2, rfl⟩
    rw [this] at hst
    cases hst
theorem mem_bits (p i : Nat) (hi : i < 36) : i ∈ bitsL p ↔ p.testBit i = true := by
  unfold bitsL
  rw [List.mem_filter, List.mem_range]
  exact ⟨fun h => h.2, fun h => ⟨hi, h⟩⟩
/-- A part's literals hold where it is hit. -/
theorem lits_hold (vs : List MVar) (hv : VarsOk vs) (p : Nat) (vals : List Int) (hm : MayBe vs vals) (h : Hits vs vals p) : claB (litsP vs p) vals = true := by
  obtain ⟨v, hl, hb⟩ := h
  obtain ⟨p1, p2, p3⟩ := pos_parts vs hv vals hm v hl
  have h6 := hv.1
  have hi : posV vs vals v < 36 := by omega
  rw [claB_iff]
  refine ⟨_, List.mem_map.2 ⟨posV vs vals v, (mem_bits p _ hi).2 hb, rfl⟩, ?_⟩
  rw [p1, p3]
  unfold litV valAt
  simp
theorem lits_right (vs : List MVar) (hv : VarsOk vs) (hb : ∀ v : Nat, v < vs.length → -50 ≤ (varAt vs v).lo ∧ (varAt vs v).hi ≤ 50) (p : Nat) (hp : ∀ i, p.testBit i = true → (wholeP vs).testBit i = true) : ∀ l ∈ litsP vs p, litE vs l = 0 := by
  intro l hl
  obtain ⟨i, hi, rfl⟩ := List.mem_map.1 hl
  unfold bitsL at hi
  have h1 := hp i (List.mem_filter.1 hi).2
  unfold wholeP ofP at h1
  rw [testBit_of vs hv] at h1
  simp only [Bool.and_eq_true, decide_eq_true_eq] at h1
  have h2 := hb (i / 6) h1.1
  have h3 := h1.2.1
  unfold sizeV at h3
  unfold litE
  simp only
  rw [if_neg (by omega), if_neg (by omega), if_neg (by omega)]
theorem gone_whole (vs : List MVar) (s : Sto) (i : Nat) (h : (goneP vs s).testBit i = true) : (wholeP vs).testBit i = true := by
  unfold goneP at h
  rw [testBit_less, Bool.and_eq_true] at h
  exact h.1
/-- What Removed answers: a literal that stands anyway, and what can't be spared. -/
def notL (k : Nat) (z : Int) : MLit := ⟨(k : Int), 4, z⟩
def reasonP (vs : List MVar) (c : MCon) (s : Sto) (any : Cla) : Cla := any ++ litsP vs (leastP vs c s any)
theorem vars_bounds (m : Mod) (hm : checkM m = 0) (v : Nat) (h : v < m.vars.length) : -50 ≤ (varAt m.vars v).lo ∧ (varAt m.vars v).hi ≤ 50 := by
  have e : m.vars[v]? = some (varAt m.vars v) := by unfold varAt; rw [List.getD_eq_getElem?_getD, List.getElem?_eq_getElem h]; rfl
  have := var_ok m hm v _ e
  omega
theorem firstE_zero (l : List Int) (h : ∀ e ∈ l, e = 0) : firstE l = 0 := by
  induction l with
  | nil => rfl
  | cons a r ih =>
    unfold firstE
    rw [if_pos (h a (List.mem_cons_self ..))]
    exact ih fun e he => h e (List.mem_cons_of_mem _ he)
theorem reason_right (m : Mod) (hm : checkM m = 0) (c : MCon) (s : Sto) (any : Cla) (ha : any.length ≤ 1) (hr : ∀ l ∈ any, litE m.vars l = 0) : claE m.vars (reasonP m.vars c s any) = 0 := by
  have h1 := lits_len m.vars (leastP m.vars c s any)
  unfold claE
  rw [if_neg (by unfold reasonP; rw [List.length_append]; omega)]
  refine firstE_zero _ fun e he => ?_
  obtain ⟨l, hl, rfl⟩ := List.mem_map.1 he
  unfold reasonP at hl
  rcases List.mem_append.1 hl with h | h
  · exact hr l h
  · refine lits_right m.vars (vars_okP m hm) (vars_bounds m hm) _ (fun i hi => ?_) l h
    unfold leastP at hi
    exact gone_whole _ _ _ (spare_sub _ _ _ _ _ hi)
/-- A REASON HOLDS WHERE THE CONSTRAINT DOES. -/
theorem reason_holds (m : Mod) (hm : checkM m = 0) (j : Nat) (c : MCon) (hc : m.cons[j]? = some c) (s : Sto) (any : Cla) (hany : ∀ l ∈ any, litE m.vars l = 0) (hs : saysP m.vars (pointsP m.vars c) (heldP m.vars any ||| goneP m.vars s) = true)
    (vals : List Int) (hv : hasS (beginS m.vars) vals = true) (hh : holdsC c vals = true) : claB (reasonP m.vars c s any) vals = true := by
  have hok := vars_okP m hm
  have hmb := maybe_of m.vars vals hv
  obtain ⟨k1, k2⟩ := scope_in m hm j c hc
  have h1 : saysP m.vars (pointsP m.vars c) (heldP m.vars any ||| leastP m.vars c s any) = true := by
    unfold leastP
    exact spare_says (fun g => saysP m.vars (pointsP m.vars c) (heldP m.vars any ||| g)) _ _ _ hs
  obtain ⟨v, hvl, hb⟩ := says_hits m.vars hok c k1 k2 _ h1 vals hmb hh
  unfold reasonP claB
  rw [List.any_append, Bool.or_eq_true]
  rw [Nat.testBit_or, Bool.or_eq_true] at hb
  rcases hb with hb | hb
  · left
    exact (held_hits m.vars hok vals hmb any (fun l hl => by
      have := hany l hl
      unfold litE at this
      by_cases h0 : l.var < 0 ∨ (m.vars.length : Int) ≤ l.var
      · rw [if_pos h0] at this; cases this
      · omega)).1 ⟨v, hvl, hb⟩
  · right
    exact lits_hold m.vars hok _ vals hmb ⟨v, hvl, hb⟩
end Go.Proofs.YtijohkhpigjbkaeGreatDoor
/-
  PLAIN: how long the rows of a right store are. MEMORY: a store that is being built, row by row.
-/
namespace Go.Proofs.YtijohkhpigjbkaeGreatDoor
open Go.RowKit

theorem rises_len (l : List Int) : ∀ (lo hi : Int), l.Pairwise (· < ·) → (∀ n ∈ l, lo ≤ n ∧ n ≤ hi) → (l.length : Int) ≤ max 0 (hi - lo + 1) := by
  induction l with
  | nil => intro lo hi _ _; simp; omega
  | cons a r ih =>
    intro lo hi hp hb
    have h1 := ih (a + 1) hi (List.pairwise_cons.1 hp).2 (fun n hn => by
      have := (List.pairwise_cons.1 hp).1 n hn
      have := hb n (List.mem_cons_of_mem _ hn)
      omega)
    have h2 := hb a (List.mem_cons_self ..)
    rw [List.length_cons]
    push_cast
    omega
theorem row_short (m : Mod) (s : Sto) (hm : checkM m = 0) (hs : checkV m.vars s = 0) (i : Nat) (r : List Int) (hr : s[i]? = some r) : r.length ≤ 6 := by
  obtain ⟨h1, h2, h3⟩ := (checkV_ok _ _).1 hs
  have hi : i < s.length := (List.getElem?_eq_some_iff.1 hr).1
  obtain ⟨v, hv⟩ : ∃ v, m.vars[i]? = some v := ⟨m.vars[i]'(by omega), by simp⟩
  have hvo := var_ok m hm i v hv
  have hin := (all_zip _ _ _).1 h2 i v r hv hr
  have hri := List.all_eq_true.1 h3 r (List.mem_of_getElem? hr)
  have := rises_len r v.lo v.hi ((rises_pair r).1 hri) (fun n hn => by
    have := List.all_eq_true.1 hin n hn
    simpa [insideB] using this)
  omega

/-- Numbers of one's own, as a list. -/
theorem own_ilist {w : World} {base : Nat} {v : Value} {r : List Int} (h : w.ownsRow base 3 1 v r.length (r.map (Value.int .i64))) : IArg w v r := by
  rcases h.2 with ⟨rfl, hn⟩ | ⟨g, cap, cur, rfl, hg, hh, hc1, hc2, _, _⟩
  · have : r = [] := List.eq_nil_of_length_eq_zero hn
    subst this
    exact ⟨none, 0, rfl, ⟨Nat.le_refl _, Nat.zero_le _⟩, fun i z hz => by simp at hz⟩
  · refine ⟨_, cap, rfl, ⟨hc1, hc2⟩, fun i z hz => ⟨g, 0, rfl, (Array.getElem?_eq_some_iff.1 hh).1, ?_⟩⟩
    have hi : i < r.length := (List.getElem?_eq_some_iff.1 hz).1
    rw [Nat.zero_add, h.cellAt i (by omega), List.getElem?_map, hz]; rfl

theorem own_mono {w : World} {base base' : Nat} {e : TypeId} {size : Nat} {v : Value} {n : Nat} {xs : List Value} (h : w.ownsRow base e size v n xs) (hb : base' ≤ base) : w.ownsRow base' e size v n xs := by
  refine ⟨h.1, ?_⟩
  rcases h.2 with hn | ⟨g, cap, cur, hv, hg, r⟩
  · exact .inl hn
  · exact .inr ⟨g, cap, cur, hv, Nat.le_trans hb hg, r⟩
/-- What is owned stays so where its block does. -/
theorem own_at {w w' : World} {base : Nat} {e : TypeId} {size : Nat} {v : Value} {n : Nat} {xs : List Value} (h : w.ownsRow base e size v n xs) (hk : ∀ g, v.ownBlock = some g → w'.heap[g]? = w.heap[g]?) : w'.ownsRow base e size v n xs := by
  refine ⟨h.1, ?_⟩
  rcases h.2 with hn | ⟨g, cap, cur, hv, hg, hh, r⟩
  · exact .inl hn
  · exact .inr ⟨g, cap, cur, hv, hg, by rw [hk g (by rw [hv]; rfl)]; exact hh, r⟩

/-- A store that is being built: its first k rows are made. -/
def SRows (w : World) (base B n : Nat) (cells : List Value) (M : Sto) (k : Nat) : Prop :=
  w.ownsRow base 39 1 (.slice (some ⟨B, 0, none⟩) n n) n cells ∧
  (∀ i r, i < k → M[i]? = some r → ∃ x, cells[i]? = some x ∧ w.ownsRow (B + 1) 3 1 x r.length (r.map (Value.int .i64))) ∧
  (∀ i, k ≤ i → i < n → cells[i]? = some (.slice none 0 0))
/-- .. and of row k so much as acc is made, above block K. -/
def SRowsIn (w : World) (base B n : Nat) (cells : List Value) (M : Sto) (k K : Nat) (acc : List Int) : Prop :=
  w.ownsRow base 39 1 (.slice (some ⟨B, 0, none⟩) n n) n cells ∧
  (∀ i r, i < k → M[i]? = some r → ∃ x, cells[i]? = some x ∧ w.ownsRow (B + 1) 3 1 x r.length (r.map (Value.int .i64)) ∧ ∀ g, x.ownBlock = some g → g < K) ∧
  (∃ x, cells[k]? = some x ∧ w.ownsRow K 3 1 x acc.length (acc.map (Value.int .i64))) ∧
  (∀ i, k < i → i < n → cells[i]? = some (.slice none 0 0)) ∧ B < K ∧ K ≤ w.heap.size ∧ k < n

theorem SRows.into {w : World} {base B n : Nat} {cells : List Value} {M : Sto} {k : Nat} (h : SRows w base B n cells M k) (hk : k < n) : SRowsIn w base B n cells M k w.heap.size [] := by
  obtain ⟨h1, h2, h3⟩ := h
  refine ⟨h1, fun i r hi hr => ?_, ⟨_, h3 k (Nat.le_refl _) hk, World.ownsRow_nil _ _ _ _⟩, fun i hi hn => h3 i (by omega) hn, (h1.lt B rfl).2, Nat.le_refl _, hk⟩
  obtain ⟨x, hx, ho⟩ := h2 i r hi hr
  exact ⟨x, hx, ho, fun g hg => (ho.lt g hg).2⟩
theorem SRowsIn.done {w : World} {base B n : Nat} {cells : List Value} {M : Sto} {k K : Nat} {acc : List Int} (h : SRowsIn w base B n cells M k K acc) (hM : M[k]? = some acc) : SRows w base B n cells M (k + 1) := by
  obtain ⟨h1, h2, ⟨x, hx, ho⟩, h4, h5, _, _⟩ := h
  refine ⟨h1, fun i r hi hr => ?_, fun i hi hn => h4 i (by omega) hn⟩
  by_cases hik : i < k
  · obtain ⟨y, hy, hoy, _⟩ := h2 i r hik hr
    exact ⟨y, hy, hoy⟩
  · obtain rfl : i = k := by omega
    rw [hM] at hr; cases hr
    exact ⟨x, hx, own_mono ho (by omega)⟩
theorem SRowsIn.kept {w w' : World} {base B n : Nat} {cells : List Value} {M : Sto} {k K : Nat} {acc : List Int} (h : SRowsIn w base B n cells M k K acc) (hb : Below w.heap.size w w') : SRowsIn w' base B n cells M k K acc := by
  obtain ⟨h1, h2, ⟨x, hx, ho⟩, h4, h5, h6, h7⟩ := h
  refine ⟨own_below h1 hb, fun i r hi hr => ?_, ⟨x, hx, own_below ho hb⟩, h4, h5, Nat.le_trans h6 hb.size, h7⟩
  obtain ⟨y, hy, hoy, hg⟩ := h2 i r hi hr
  exact ⟨y, hy, own_below hoy hb, hg⟩
theorem SRows.kept {w w' : World} {base B n : Nat} {cells : List Value} {M : Sto} {k : Nat} (h : SRows w base B n cells M k) (hb : Below w.heap.size w w') : SRows w' base B n cells M k := by
  obtain ⟨h1, h2, h3⟩ := h
  refine ⟨own_below h1 hb, fun i r hi hr => ?_, h3⟩
  obtain ⟨y, hy, hoy⟩ := h2 i r hi hr
  exact ⟨y, hy, own_below hoy hb⟩
/-- One more number: 'w' is the world ahead of append, 'w3' the one behind it. -/
theorem SRowsIn.push {w w3 : World} {base B n : Nat} {cells : List Value} {M : Sto} {k K : Nat} {acc : List Int} {x v3 : Value} {z : Int} (h : SRowsIn w base B n cells M k K acc) (hx : cells[k]? = some x)
    (ho : w3.ownsRow K 3 1 v3 (acc ++ [z]).length ((acc ++ [z]).map (Value.int .i64))) (hg : w.grownBy w3 x.ownBlock) :
    SRowsIn (w3.setCell ⟨B, k, none⟩ v3) base B n (cells.set k v3) M k K (acc ++ [z]) := by
  obtain ⟨h1, h2, ⟨y, hy, hoy⟩, h4, h5, h6, h7⟩ := h
  rw [hx] at hy; cases hy
  have hxK : ∀ g, x.ownBlock = some g → K ≤ g := fun g hg => (hoy.lt g hg).1
  have hB : B < w.heap.size := (h1.lt B rfl).2
  have hne : some B ≠ x.ownBlock := fun h => by have := hxK B h.symm; omega
  have h13 : w3.ownsRow base 39 1 (.slice (some ⟨B, 0, none⟩) n n) n cells := h1.kept hg (Or.inr hne)
  have hlen : cells.length = n := by have := h1.1; omega
  refine ⟨(h13.stored k v3).1, fun i r hi hr => ?_, ⟨v3, by rw [List.getElem?_set_self (by omega)], ?_⟩, fun i hi hn => by rw [List.getElem?_set_ne (by omega)]; exact h4 i hi hn, h5, ?_, h7⟩
  · obtain ⟨y, hy, hoy2, hgy⟩ := h2 i r hi hr
    refine ⟨y, by rw [List.getElem?_set_ne (by omega)]; exact hy, ?_, hgy⟩
    have h23 : w3.ownsRow (B + 1) 3 1 y r.length (r.map (Value.int .i64)) := by
      refine hoy2.kept hg ?_
      cases hyb : y.ownBlock with
      | none => exact Or.inl rfl
      | some g =>
        refine Or.inr fun he => ?_
        have := hxK g he.symm
        have := hgy g hyb
        omega
    refine own_at h23 fun g hg2 => Below.heap_setCell _ _ _ _ ?_
    have := (hoy2.lt g hg2).1
    simp only; omega
  · refine own_at ho fun g hg2 => Below.heap_setCell _ _ _ _ ?_
    have := (ho.lt g hg2).1
    simp only; omega
  · have := hg.size; simp; omega
theorem SRows.rarg {w : World} {base B n : Nat} {cells : List Value} {M : Sto} (h : SRows w base B n cells M n) (hM : M.length = n) : RArg w (.slice (some ⟨B, 0, none⟩) n n) M := by
  obtain ⟨h1, h2, _⟩ := h
  have hB : B < w.heap.size := (h1.lt B rfl).2
  have hmx : n ≤ maxLen := by
    rcases h1.2 with ⟨h', _⟩ | ⟨g, cap, cur, h', _, _, hc1, hc2, _⟩
    · cases h'
    · exact Nat.le_trans hc1 hc2
  refine ⟨_, n, by rw [hM], ⟨by omega, hmx⟩, fun i r hr => ?_⟩
  have hi : i < n := by rw [← hM]; exact (List.getElem?_eq_some_iff.1 hr).1
  obtain ⟨x, hx, ho⟩ := h2 i r hi hr
  exact ⟨B, 0, x, rfl, hB, by rw [Nat.zero_add, h1.cellAt i (by omega)]; exact hx, own_ilist ho⟩
end Go.Proofs.YtijohkhpigjbkaeGreatDoor
/-
  What was so in an old world.
-/
namespace Go.Proofs.YtijohkhpigjbkaeGreatDoor
open Go.RowKit

/-- What was so in an old world, and is so still. -/
def Old (N : Nat) (w : World) (P : World → Prop) : Prop := ∃ w0 : World, w0.heap.size ≤ N ∧ P w0 ∧ Below w0.heap.size w0 w
theorem Old.below {N : Nat} {w w' : World} {P : World → Prop} (h : Old N w P) (hb : Below N w w') : Old N w' P := by
  obtain ⟨w0, h1, h2, h3⟩ := h
  exact ⟨w0, h1, h2, h3.trans (hb.mono h1)⟩
theorem bk_cell {w : World} {b : Nat} {cs : Array Value} {t : TypeId} (h : w.heap[b]? = some (.cells cs t)) (i : Nat) (v : Value) (hv : cs[i]? = some v) : w.cell? ⟨b, i, none⟩ = some v := by
  rw [Lib.cell_of_heap h]; exact hv
theorem bounds_set (vals : List Int) (k : Nat) (x : Int) (h : ∀ y ∈ vals, -50 ≤ y ∧ y ≤ 50) (hx : -50 ≤ x ∧ x ≤ 50) : ∀ y ∈ vals.set k x, -50 ≤ y ∧ y ≤ 50 := by
  intro y hy
  rcases List.mem_or_eq_of_mem_set hy with h1 | h1
  · exact h y h1
  · rw [h1]; exact hx
end Go.Proofs.YtijohkhpigjbkaeGreatDoor
/-
  A constraint's points: how they lie in memory while they are sought.
-/
namespace Go.Proofs.YtijohkhpigjbkaeGreatDoor
open Go.RowKit

def ptr (b : Nat) : Value := .pointer (some ⟨b, 0, none⟩)
def ptsCaps (N bs bm bc : Nat) : Array Value := #[.pointer (some ⟨bs, 0, none⟩), .pointer (some ⟨bm, 0, none⟩), .pointer (some ⟨bc, 0, none⟩), .pointer (some ⟨N + 1, 0, none⟩), .pointer (some ⟨N + 2, 0, none⟩), .pointer (some ⟨N + 3, 0, none⟩)]
def u64s (l : List Nat) : List Value := l.map fun (z : Nat) => Value.int .u64 (z : Int)
/-- What the search for points has in memory. -/
def PtsS (N bs bm bc : Nat) (m : Mod) (con : Nat) (vs cs sv : Value) (scope vals : List Int) (out : List Nat) (w : World) : Prop :=
  N + 4 ≤ w.heap.size ∧
  Old N w (fun u => MArg u vs cs m ∧ IArg u sv scope ∧ u.cell? ⟨bs, 0, none⟩ = some sv ∧ u.cell? ⟨bm, 0, none⟩ = some vs ∧ u.cell? ⟨bm, 1, none⟩ = some cs ∧ u.cell? ⟨bc, 0, none⟩ = some (.int .i64 con)) ∧
  w.ownsRow N 3 1 (.slice (some ⟨N, 0, none⟩) vals.length vals.length) vals.length (vals.map (Value.int .i64)) ∧
  w.cell? ⟨N + 1, 0, none⟩ = some (.slice (some ⟨N, 0, none⟩) vals.length vals.length) ∧
  w.cell? ⟨N + 3, 0, none⟩ = some (.func (.func 142) #[] (ptsCaps N bs bm bc)) ∧
  ∃ ov, w.ownsRow N 122 1 (.slice (some ⟨N + 2, 0, none⟩) 1 1) 1 [ov] ∧ w.ownsRow (N + 4) 118 1 ov out.length (u64s out)

section
variable {N bs bm bc con : Nat} {m : Mod} {vs cs sv : Value} {scope vals : List Int} {out : List Nat} {w w' : World}
theorem PtsS.below (h : PtsS N bs bm bc m con vs cs sv scope vals out w) (hb : Below w.heap.size w w') : PtsS N bs bm bc m con vs cs sv scope vals out w' := by
  obtain ⟨h1, h2, h3, h4, h5, ov, h6, h7⟩ := h
  exact ⟨Nat.le_trans h1 hb.size, h2.below (hb.mono (by omega)), own_below h3 hb, (hb.cell (p := ⟨N + 1, 0, none⟩) (by simp only; omega)).trans h4, (hb.cell (p := ⟨N + 3, 0, none⟩) (by simp only; omega)).trans h5, ov, own_below h6 hb, own_below h7 hb⟩
theorem PtsS.old (h : PtsS N bs bm bc m con vs cs sv scope vals out w) : MArg w vs cs m ∧ IArg w sv scope ∧ w.cell? ⟨bs, 0, none⟩ = some sv ∧ w.cell? ⟨bm, 0, none⟩ = some vs ∧ w.cell? ⟨bm, 1, none⟩ = some cs ∧ w.cell? ⟨bc, 0, none⟩ = some (.int .i64 con) ∧
    (bs < w.heap.size ∧ bm < w.heap.size ∧ bc < w.heap.size) := by
  obtain ⟨_, ⟨w0, g0, ⟨g1, g2, g3, g4, g5, g6⟩, gb⟩, _⟩ := h
  have l1 := World.block_lt_of_cell? w0 _ g3
  have l2 := World.block_lt_of_cell? w0 _ g4
  have l3 := World.block_lt_of_cell? w0 _ g6
  have hs := gb.size
  simp only at l1 l2 l3
  exact ⟨MArg.below gb g1, IArg.below gb g2, (gb.cell (p := ⟨bs, 0, none⟩) l1).trans g3, (gb.cell (p := ⟨bm, 0, none⟩) l2).trans g4, (gb.cell (p := ⟨bm, 1, none⟩) l2).trans g5, (gb.cell (p := ⟨bc, 0, none⟩) l3).trans g6, by omega, by omega, by omega⟩
theorem PtsS.vals_arg (h : PtsS N bs bm bc m con vs cs sv scope vals out w) : IArg w (.slice (some ⟨N, 0, none⟩) vals.length vals.length) vals := own_ints h.2.2.1
theorem PtsS.set (h : PtsS N bs bm bc m con vs cs sv scope vals out w) (k : Nat) (x : Int) :
    PtsS N bs bm bc m con vs cs sv scope (vals.set k x) out (w.setCell ⟨N, k, none⟩ (.int .i64 x)) ∧ Below N w (w.setCell ⟨N, k, none⟩ (.int .i64 x)) := by
  obtain ⟨h1, h2, h3, h4, h5, ov, h6, h7⟩ := h
  have hb : Below N w (w.setCell ⟨N, k, none⟩ (.int .i64 x)) := (Below.refl _ _).setCell (show N ≤ N from Nat.le_refl N) _
  have hk : ∀ g, g ≠ N → (w.setCell ⟨N, k, none⟩ (.int .i64 x)).heap[g]? = w.heap[g]? := fun g hg => Below.heap_setCell _ _ _ _ (fun h => hg h)
  refine ⟨⟨by have := hb.size; omega, h2.below hb, ?_, ?_, (World.cell?_of_block (hk _ (by simp only; omega))).trans h5, ov, own_at h6 fun g hg => ?_, own_at h7 fun g hg => ?_⟩, hb⟩
  · rw [List.length_set, List.map_set]
    exact (h3.stored k (.int .i64 x)).1
  · rw [List.length_set]
    exact (World.cell?_of_block (hk _ (by simp only; omega))).trans h4
  · have hgn : g = N + 2 := by injection hg with e; exact e.symm
    exact hk g (by omega)
  · have := (h7.lt g hg).1
    exact hk _ (by omega)
/-- One more point: a new row, and its box is set. -/
theorem PtsS.put {z : Nat} {v3 ov : Value} {w2 : World} (h : PtsS N bs bm bc m con vs cs sv scope vals out w) (ho : w.ownsRow N 122 1 (.slice (some ⟨N + 2, 0, none⟩) 1 1) 1 [ov]) (hr : w.ownsRow (N + 4) 118 1 ov out.length (u64s out))
    (hw : w2.ownsRow (N + 4) 118 1 v3 (out ++ [z]).length (u64s (out ++ [z]))) (hg : w.grownBy w2 ov.ownBlock) :
    PtsS N bs bm bc m con vs cs sv scope vals (out ++ [z]) (w2.setCell ⟨N + 2, 0, none⟩ v3) ∧ Below N w (w2.setCell ⟨N + 2, 0, none⟩ v3) := by
  obtain ⟨h1, h2, h3, h4, h5, _⟩ := h
  have hov : ∀ g, ov.ownBlock = some g → N + 4 ≤ g := fun g hg => (hr.lt g hg).1
  have hb1 : Below N w w2 := (Below.refl _ _).grown hg (by omega) (fun k hk => by have := hov k hk; omega)
  have hb : Below N w (w2.setCell ⟨N + 2, 0, none⟩ v3) := hb1.setCell (by simp only; omega) _
  have hk : ∀ g, g < N + 4 → g ≠ N + 2 → (w2.setCell ⟨N + 2, 0, none⟩ v3).heap[g]? = w.heap[g]? := fun g hgl hgn =>
    (Below.heap_setCell _ _ _ _ (fun h => hgn h)).trans (hg.block g (by omega) (fun he => by have := hov g he.symm; omega))
  refine ⟨⟨by have := hg.size; simp; omega, h2.below hb, own_at h3 fun g hgg => ?_, (World.cell?_of_block (hk _ (by simp only; omega) (by simp only; omega))).trans h4, (World.cell?_of_block (hk _ (by simp only; omega) (by simp only; omega))).trans h5, v3, ?_, own_at hw fun g hgg => ?_⟩, hb⟩
  · have hgn : g = N := by injection hgg with e; exact e.symm
    exact hk g (by omega) (by omega)
  · have h6 : w2.ownsRow N 122 1 (.slice (some ⟨N + 2, 0, none⟩) 1 1) 1 [ov] := ho.kept hg (Or.inr fun he => by have := hov (N + 2) he.symm; omega)
    exact (h6.stored 0 v3).1
  · have := (hw.lt g hgg).1
    exact Below.heap_setCell _ _ _ _ (fun h => by simp only at h; omega)
end

theorem points_same (vs : List MVar) (c : MCon) : ∀ (r a b : List Int) (q : Nat), Agree r a b → pointsN vs c r a q = pointsN vs c r b q
  | [], a, b, q, h => by
    unfold pointsN
    rw [show a = b from List.ext_getElem? fun w => h.2 w (fun v hv => by cases hv)]
  | v :: r, a, b, q, h => by
    unfold pointsN
    congr 1
    funext x
    exact points_same vs c r _ _ _ (h.set x)
theorem points_count (vs : List MVar) (hv : VarsOk vs) (c : MCon) : ∀ (r vals : List Int) (q : Nat), (pointsN vs c r vals q).length ≤ 6 ^ r.length
  | [], vals, q => by
    unfold pointsN
    split <;> simp
  | v :: r, vals, q => by
    unfold pointsN
    have hs : (spanR (varAt vs v.toNat).lo (varAt vs v.toNat).hi).length ≤ 6 := by
      have := hv.2 v.toNat
      unfold sizeV at this
      unfold spanR
      simp only [List.length_map, List.length_range]
      exact this
    have key : ∀ l : List Int, (l.flatMap fun x => pointsN vs c r (vals.set v.toNat x) (q ||| 2 ^ (6 * v.toNat + (x - (varAt vs v.toNat).lo).toNat))).length ≤ l.length * 6 ^ r.length := by
      intro l
      induction l with
      | nil => simp
      | cons a l ih =>
        rw [List.flatMap_cons, List.length_append, List.length_cons]
        have := points_count vs hv c r (vals.set v.toNat a) (q ||| 2 ^ (6 * v.toNat + (a - (varAt vs v.toNat).lo).toNat))
        rw [Nat.add_mul]
        omega
    have h1 := key (spanR (varAt vs v.toNat).lo (varAt vs v.toNat).hi)
    have h2 : (spanR (varAt vs v.toNat).lo (varAt vs v.toNat).hi).length * 6 ^ r.length ≤ 6 * 6 ^ r.length := Nat.mul_le_mul_right _ hs
    rw [List.length_cons, Nat.pow_succ]
    omega
/-- The points of the first values of a variable. -/
def ptsN (vs : List MVar) (c : MCon) (v : Nat) (r vals : List Int) (a : Nat) (lo : Int) (j : Nat) : List Nat :=
  (List.range j).flatMap fun (i : Nat) => pointsN vs c r (vals.set v (lo + (i : Int))) (a ||| 2 ^ (6 * v + i))
theorem ptsN_next (vs : List MVar) (c : MCon) (v : Nat) (r vals : List Int) (a : Nat) (lo : Int) (j : Nat) : ptsN vs c v r vals a lo (j + 1) = ptsN vs c v r vals a lo j ++ pointsN vs c r (vals.set v (lo + (j : Int))) (a ||| 2 ^ (6 * v + j)) := by
  unfold ptsN; rw [List.range_succ, List.flatMap_append]; simp
theorem ptsN_all (vs : List MVar) (c : MCon) (v : Nat) (r vals : List Int) (a : Nat) : ptsN vs c v r vals a (varAt vs v).lo (sizeV (varAt vs v)) = pointsN vs c ((v : Int) :: r) vals a := by
  conv => rhs; unfold pointsN
  unfold ptsN spanR sizeV
  rw [List.flatMap_map, Int.toNat_natCast]
  congr 1
  funext i
  rw [show ((varAt vs v).lo + (i : Int) - (varAt vs v).lo).toNat = i by omega]
theorem ptsN_count (vs : List MVar) (hv : VarsOk vs) (c : MCon) (v : Nat) (r vals : List Int) (a : Nat) (lo : Int) : ∀ j, (ptsN vs c v r vals a lo j).length ≤ j * 6 ^ r.length
  | 0 => by simp [ptsN]
  | j + 1 => by
    rw [ptsN_next, List.length_append, Nat.add_mul]
    have h1 := ptsN_count vs hv c v r vals a lo j
    have h2 := points_count vs hv c r (vals.set v (lo + (j : Int))) (a ||| 2 ^ (6 * v + j))
    omega
theorem points_lt (vs : List MVar) (hv : VarsAll vs) (c : MCon) : ∀ (r vals : List Int) (a : Nat), (∀ v ∈ r, 0 ≤ v ∧ v < (vs.length : Int)) → a < 2 ^ 36 → ∀ p ∈ pointsN vs c r vals a, p < 2 ^ 36
  | [], vals, a, _, ha, p, hp => by
    unfold pointsN at hp
    split at hp
    · rw [List.mem_singleton.1 hp]; exact ha
    · cases hp
  | v :: r, vals, a, hr, ha, p, hp => by
    unfold pointsN at hp
    obtain ⟨x, hx, hp⟩ := List.mem_flatMap.1 hp
    obtain ⟨h1, h2⟩ := (mem_span_iff _ _ _).1 hx
    have hvr := hr v (List.mem_cons_self ..)
    refine points_lt vs hv c r _ _ (fun y hy => hr y (List.mem_cons_of_mem _ hy)) (or_lt36 ha (pow_lt36 vs hv v.toNat _ (by omega) ?_)) p hp
    unfold sizeV
    omega
end Go.Proofs.YtijohkhpigjbkaeGreatDoor
/-
  WALKS: math/bits.TrailingZeros64 (the library's look-up); package fence: the field of the first variable that has values.
-/
namespace Go.Proofs.YtijohkhpigjbkaeGreatDoor
open Go.RowKit

/-- The library's table lies in its variable. -/
def TabT (w : World) : Prop := TabAt 0 Lib.deBruijn64tab w
theorem TabT.below {w w' : World} (h : TabT w) (hb : Below w.heap.size w w') : TabT w' := fun j hj => by
  have := h j hj
  exact (hb.cell (World.block_lt_of_cell? w _ this)).trans this

set_option maxHeartbeats 1000000 in
theorem tz64_some (x k idx : Nat) (w : World) (hx0 : ((x : Int) == 0) = false)
    (key : IntKind.u64.wrap (bits BinOp.and IntKind.u64 (x : Int) (IntKind.u64.wrap (-(x : Int))) * 285870213051353865) / 288230376151711744 = (idx : Int))
    (hi : idx < 64) (hk : k < 64) (hcell : w.cell? ⟨0, idx, none⟩ = some (.int .u8 k)) :
    Calls Tryz.prog 192 #[.int .u64 x] w fun e w' => e = .returned (.int .i64 k) ∧ w' = w := by
  go_enter Tryz.func192, Tryz.ntmps192
  go_wp2_with (simp only [key])
  go_ret
  exact ⟨rfl, rfl⟩
theorem tz64_none (w : World) : Calls Tryz.prog 192 #[.int .u64 0] w fun e w' => e = .returned (.int .i64 64) ∧ w' = w := by
  go_enter Tryz.func192, Tryz.ntmps192
  go_wp2
  go_ret
  exact ⟨rfl, rfl⟩
theorem tz64_any (x : Nat) (hx : x < 18446744073709551616) (w : World) (hT : TabT w) :
    Calls Tryz.prog 192 #[.int .u64 x] w fun e w' => e = .returned (.int .i64 (Lib.ctz 64 x)) ∧ w' = w := by
  by_cases hx0 : x = 0
  · subst hx0
    exact tz64_none w
  · obtain ⟨hlow, hk⟩ := Lib.lowest_bit 64 x hx0 hx
    obtain ⟨hi, htab⟩ := Lib.deBruijn64_at _ hk
    have hcell := hT _ hi
    rw [htab] at hcell
    exact tz64_some x _ _ w (by simp; omega) (tz64_key x _ hx hx0 hlow) hi hk hcell

theorem shl_63 (k : Nat) (hk : k < 8) : IntKind.u64.wrap (63 * 2 ^ (k * 6)) = ((63 * 2 ^ (6 * k) : Nat) : Int) := by
  rw [IntKind.wrap_u64, Nat.mul_comm k 6]
  have : (2 : Nat) ^ (6 * k) ≤ 2 ^ 42 := Nat.pow_le_pow_right (by omega) (by omega)
  have e : (63 : Int) * ((2 : Int) ^ (6 * k)) = ((63 * 2 ^ (6 * k) : Nat) : Int) := by simp
  rw [e]
  exact Int.emod_eq_of_lt (by omega) (by omega)
set_option maxHeartbeats 400000 in
theorem field_any (p : Nat) (h0 : p ≠ 0) (hp : p < 2 ^ 36) (w : World) (hT : TabT w) :
    Calls Tryz.prog 195 #[.int .u64 p] w fun e w' => e = .returned (.int .u64 ((fieldP p : Nat) : Int)) ∧ w' = w := by
  have HT : Hid (TabT w) := hT
  have hc := (bitsL_step p h0 hp).2
  obtain ⟨t, ht⟩ : ∃ t, Lib.ctz 64 p = t := ⟨_, rfl⟩
  have HC : Hid (Lib.ctz 64 p = t) := ht
  rw [ht] at hc
  have HF : Hid (fieldP p = 63 * 2 ^ (6 * (t / 6))) := by show _ = _; unfold fieldP; rw [ht]
  have hs := shl_63 (t / 6) (by omega)
  rw [HF.out]
  obtain ⟨q, hq⟩ : ∃ q, 63 * 2 ^ (6 * (t / 6)) = q := ⟨_, rfl⟩
  rw [hq] at hs ⊢
  have HP : Hid (p < 2 ^ 36) := hp
  clear hT ht hq hp h0
  go_enter Tryz.func195, Tryz.ntmps195
  go_wp2_with fail
  refine (tz64_any p (by have := HP.out; omega) _ HT.out).mono ?_
  rintro e w ⟨rfl, rfl⟩
  rw [HC.out]
  go_wp2
  go_ret
  exact ⟨ret_int hs, rfl⟩
end Go.Proofs.YtijohkhpigjbkaeGreatDoor
/-
  MEMORY: literals in a row of one's own. WALK: package fence: Lits.
-/
namespace Go.Proofs.YtijohkhpigjbkaeGreatDoor
open Go.RowKit

theorem Tryz.infoLit : (Tryz.prog.info? 42).map (fun i => (i.zero, i.size, i.bytes)) = some (some (.agg #[.int .i64 0, .int .i64 0, .int .i64 0]), 3, 24) := by kernel_rfl
theorem Tryz.underClauseE : Tryz.prog.underlying 29 = some (.slice 42) := by kernel_rfl
def litCs (t : MLit) : List Value := [.int .i64 t.var, .int .i64 t.op, .int .i64 t.n]
def litsCs (l : Cla) : List Value := l.flatMap litCs
theorem litsCs_len (l : Cla) : (litsCs l).length = l.length * 3 := by
  induction l with
  | nil => rfl
  | cons t r ih => unfold litsCs at *; rw [List.flatMap_cons, List.length_append, ih, List.length_cons]; simp [litCs]; omega
theorem litsCs_get (l : Cla) (i : Nat) (t : MLit) (h : l[i]? = some t) : (litsCs l)[i * 3]? = some (.int .i64 t.var) ∧ (litsCs l)[i * 3 + 1]? = some (.int .i64 t.op) ∧ (litsCs l)[i * 3 + 2]? = some (.int .i64 t.n) := by
  induction l generalizing i with
  | nil => cases h
  | cons a r ih =>
    unfold litsCs at *
    rw [List.flatMap_cons]
    have hl : (litCs a).length = 3 := rfl
    cases i with
    | zero => cases h; exact ⟨rfl, rfl, rfl⟩
    | succ i =>
      obtain ⟨h1, h2, h3⟩ := ih i (by simpa using h)
      refine ⟨?_, ?_, ?_⟩
      · rw [List.getElem?_append_right (by rw [hl]; omega), hl, show (i + 1) * 3 - 3 = i * 3 by omega]; exact h1
      · rw [List.getElem?_append_right (by rw [hl]; omega), hl, show (i + 1) * 3 + 1 - 3 = i * 3 + 1 by omega]; exact h2
      · rw [List.getElem?_append_right (by rw [hl]; omega), hl, show (i + 1) * 3 + 2 - 3 = i * 3 + 2 by omega]; exact h3
/-- A clause in a row of one's own. -/
def LOwn (base : Nat) (w : World) (v : Value) (l : Cla) : Prop := w.ownsRow base 42 3 v l.length (litsCs l)
theorem LOwn.arg {base : Nat} {w : World} {v : Value} {l : Cla} (h : LOwn base w v l) : LArg w v l := by
  have h' : w.ownsRow base 42 3 v l.length (litsCs l) := h
  rcases h'.2 with ⟨rfl, hn⟩ | ⟨g, cap, cur, rfl, hg, hh, hc1, hc2, _, _⟩
  · have : l = [] := List.eq_nil_of_length_eq_zero hn
    subst this
    exact ⟨none, 0, rfl, ⟨Nat.le_refl _, Nat.zero_le _⟩, fun i z hz => by simp at hz⟩
  · refine ⟨_, cap, rfl, ⟨hc1, hc2⟩, fun i t ht => ?_⟩
    have hi : i < l.length := (List.getElem?_eq_some_iff.1 ht).1
    obtain ⟨g1, g2, g3⟩ := litsCs_get l i t ht
    exact ⟨g, 0, rfl, (Array.getElem?_eq_some_iff.1 hh).1, by rw [Nat.zero_add, h'.cellAt (i * 3) (by omega)]; exact g1, by rw [Nat.zero_add, h'.cellAt (i * 3 + 1) (by omega)]; exact g2, by rw [Nat.zero_add, h'.cellAt (i * 3 + 2) (by omega)]; exact g3⟩
theorem lit_laid (w : World) (t : MLit) : ∀ (j : Nat) (u : Value), (litCs t)[j]? = some u → (w.alloc (.cells #[.int .i64 t.var, .int .i64 t.op, .int .i64 t.n] 42)).cell? ((⟨w.heap.size, 0, none⟩ : Addr).add j) = some u := by
  intro j u hj
  match j, hj with
  | 0, hj => simp [litCs] at hj; subst hj; simp [Addr.add]
  | 1, hj => simp [litCs] at hj; subst hj; simp [Addr.add]
  | 2, hj => simp [litCs] at hj; subst hj; simp [Addr.add]

set_option maxHeartbeats 1600000 in
set_option maxRecDepth 100000 in
theorem flits_any (vs : List MVar) (hva : VarsAll vs) (p : Nat) (hp : ∀ i, p.testBit i = true → (wholeP vs).testBit i = true) (sv : Value) (w : World) (hv : VArg w sv vs) (hT : TabT w) :
    Calls Tryz.prog 141 #[sv, .int .u64 p] w fun e w' => ∃ x, e = .returned x ∧ LOwn w.heap.size w' x (litsP vs p) ∧ Below w.heap.size w w' := by
  have HVO : Hid (VarsAll vs) := hva
  have HT : Hid (∀ w', Below w.heap.size w w' → TabT w') := fun w' h => hT.below h
  have HP36 : Hid (p < 2 ^ 36) := by
    show p < 2 ^ 36
    apply Nat.lt_pow_two_of_testBit
    intro i hi
    cases hb : p.testBit i
    · rfl
    · have := hp i hb
      unfold wholeP at this
      rw [Nat.testBit_lt_two_pow (Nat.lt_of_lt_of_le (of_lt vs hva.1 _) (Nat.pow_le_pow_right (by omega) hi))] at this
      cases this
  have HPW : Hid (∀ i, p.testBit i = true → (wholeP vs).testBit i = true) := hp
  obtain ⟨a, c, rfl, hm, hr⟩ := hv
  have HV : Hid (∀ (i : Nat) (t : MVar), vs[i]? = some t → t.name.size ≤ maxLen ∧ ∃ b off, a = some ⟨b, off, none⟩ ∧ b < w.heap.size ∧
    w.cell? ⟨b, off + i * 3, none⟩ = some (.string t.name) ∧ w.cell? ⟨b, off + i * 3 + 1, none⟩ = some (.int .i64 t.lo) ∧ w.cell? ⟨b, off + i * 3 + 2, none⟩ = some (.int .i64 t.hi)) := hr
  unfold maxLen at hm
  obtain ⟨hm1, hm⟩ := hm
  have h6 := hva.1.1
  obtain ⟨i0, hi, hz0, hz1, hz2⟩ := info_parts Tryz.infoLit
  clear hr hva hp hT
  go_enter Tryz.func141, Tryz.ntmps141
  go_wp2_with fail
  go_loopw [5, 6] (fun v r wr => ∃ (q : Nat) (done : Cla), r = .int .u64 (q : Int) ∧ LOwn w.heap.size wr v done ∧ Hid (litsP vs p = done ++ litsP vs q) ∧ Hid (q < 2 ^ 36) ∧ Hid (∀ i, q.testBit i = true → p.testBit i = true) ∧ Below w.heap.size w wr) (fun _ r _ => (intOf r).toNat)
  case atStart => exact ⟨p, [], rfl, World.ownsRow_nil _ _ _ _, rfl, HP36, fun _ h => h, Below.refl _ _⟩
  case round =>
    obtain ⟨q, done, rfl, hown, hsp, hq36, hqs, hbw⟩ := hrel
    have HOW : Hid (LOwn w.heap.size wr u5 done) := hown
    have HBW : Hid (Below w.heap.size w wr) := hbw
    obtain ⟨ao, co, rfl⟩ := own_form (show wr.ownsRow _ _ _ _ _ _ from hown)
    clear hown hbw
    by_cases hq0 : q = 0
    · subst hq0
      have HE : Hid (LOwn w.heap.size wr (.slice ao (List.length done) co) (litsP vs p)) := by
        have : litsP vs p = done := by rw [hsp.out]; simp [litsP, bitsL_zero]
        rw [this]; exact HOW.out
      clear hsp hqs
      go_wp2
      go_ret
      exact ⟨_, rfl, HE.out, HBW.out⟩
    · obtain ⟨hst, hk36⟩ := bitsL_step q hq0 hq36.out
      obtain ⟨k, hk⟩ : ∃ k, Lib.ctz 64 q = k := ⟨_, rfl⟩
      have hbits := low_bits q hq0 (by have := hq36.out; omega)
      have hless := low_less q hq0 (by have := hq36.out; omega)
      obtain ⟨q2, hq2⟩ : ∃ q2, q &&& (q - 1) = q2 := ⟨_, rfl⟩
      have HQS : Hid (∀ i, q2.testBit i = true → p.testBit i = true) := fun i hi => by
        rw [← hq2, (hbits i).2.2, Bool.and_eq_true] at hi
        exact hqs.out i hi.1
      have hkb := (hbits k).2.1 hk.symm
      have hkw := HPW.out k (hqs.out k hkb)
      unfold wholeP ofP at hkw
      rw [testBit_of vs HVO.out.1] at hkw
      simp only [Bool.and_eq_true, decide_eq_true_eq] at hkw
      have hkl : k / 6 < vs.length := hkw.1
      have hbn := HVO.out.2 (k / 6) hkl
      obtain ⟨lo, hlo⟩ : ∃ lo, (varAt vs (k / 6)).lo = lo := ⟨_, rfl⟩
      have HN : Hid (litsP vs p = (done ++ [⟨((k / 6 : Nat) : Int), 3, lo + ((k % 6 : Nat) : Int)⟩]) ++ litsP vs q2) := by
        show _ = _
        rw [hsp.out, List.append_assoc]
        congr 1
        unfold litsP
        rw [hst, hk, hq2, List.map_cons, hlo]; rfl
      rw [hk] at hk36
      rw [hq2] at hless
      obtain ⟨_, b, off, hax, hb, _, c1, _⟩ := HV.out (k / 6) _ (var_at hkl)
      subst hax
      have hc1 := (HBW.out.cell (p := ⟨b, off + k / 6 * 3 + 1, none⟩) hb).trans c1
      rw [hlo] at hc1 hbn
      have HK : Hid (Lib.ctz 64 q = k) := hk
      have hdl : done.length ≤ 36 := by
        have h1 := lits_len vs p
        rw [hsp.out, List.length_append] at h1
        omega
      have HQ36 : Hid (q < 2 ^ 36) := hq36.out
      have HQ2 : Hid (q2 < 2 ^ 36) := by have := hq36.out; show _ < _; omega
      have hsub : IntKind.u64.wrap ((q : Int) - 1) = ((q - 1 : Nat) : Int) := by rw [IntKind.wrap_u64]; have := hq36.out; omega
      have hand := bits_and_u64_nat q (q - 1) (by have := hq36.out; omega) (by have := hq36.out; omega)
      rw [hq2] at hand
      have hne : ((q : Int) != 0) = true := by simpa using hq0
      have HLS : Hid (q2 < q) := hless
      have hsm : -100 ≤ lo + ((k % 6 : Nat) : Int) ∧ lo + ((k % 6 : Nat) : Int) ≤ 100 := by omega
      clear hst hbits hqs hq36 hkb hkw hsp hlo hq2 hk c1 hless hq0
      go_wp2_with fail
      refine (tz64_any q (by have := HQ36.out; omega) _ (HT.out _ HBW.out)).mono ?_
      rintro e w1 ⟨rfl, rfl⟩
      rw [HK.out]
      obtain ⟨t, ht⟩ : ∃ t : MLit, t = ⟨(k : Int) / 6, 3, lo + (k : Int) % 6⟩ := ⟨_, rfl⟩
      have hown : w1.ownsRow w.heap.size 42 3 (.slice ao (List.length done) co) (List.length done) (litsCs done) := HOW.out
      have HN2 : Hid (litsP vs p = (done ++ [t]) ++ litsP vs q2) := by show _ = _; rw [ht]; exact HN.out
      have hbs := HBW.out.size
      go_wp2_with (at_builtin; refine wpList_append_own _ rfl _ _ 29 rfl w.heap.size 42 i0 (.agg #[.int .i64 0, .int .i64 0, .int .i64 0]) 3 24 Tryz.underClauseE hi hz0 hz1 hz2 rfl (by decide) _ _ _ rfl (hown.alloc _) ⟨w1.heap.size, 0, none⟩ 1 1 (litCs ⟨(k : Int) / 6, 3, lo + (k : Int) % 6⟩) rfl rfl ?c1 ?c2 ?c3 ?c4 ?c5 ?_)
      case c1 => exact lit_laid w1 ⟨(k : Int) / 6, 3, lo + (k : Int) % 6⟩
      case c2 => intro u hu; simp [litCs] at hu; rcases hu with rfl | rfl | rfl <;> rfl
      case c3 => unfold maxLen; omega
      case c4 => omega
      case c5 => simp; omega
      intro v3 w3 hown3 hgrow _
      have HOW3 : Hid (LOwn w.heap.size w3 v3 (done ++ [t])) := by
        show World.ownsRow _ _ _ _ _ _ _
        unfold litsCs
        rw [List.length_append, List.flatMap_append, ht]
        simpa [litsCs] using hown3
      have HB3 : Hid (Below w.heap.size w w3) := (HBW.out.alloc hbs _).grown hgrow (by simp; omega) (fun g h => (hown.lt g h).1)
      clear hown3 hgrow hown hc1
      go_wp2
      go_roundw
      case rel => exact ⟨q2, done ++ [t], rfl, HOW3.out, HN2, HQ2, HQS, HB3.out⟩
      case measure => simp [intOf]; exact HLS.out
end Go.Proofs.YtijohkhpigjbkaeGreatDoor
/-
  MEMORY: literals are appended to a row of one's own; a clause is cloned.
-/
namespace Go.Proofs.YtijohkhpigjbkaeGreatDoor
open Go.RowKit

theorem append_no_lit (T : TypeId) (hT : Tryz.prog.underlying T = some (.slice 42)) (w : World) (ty : TypeId) (base n c : Nat) (v : Value) (xs : List Value) (hown : w.ownsRow base 42 3 v n xs) :
    (Builtin.append_ #[T, T] ty #[v, .slice none 0 c]).run Tryz.prog w = .ok v w := by
  obtain ⟨i0, hi, hz0, hz1, hz2⟩ := info_parts Tryz.infoLit
  rcases hown.2 with ⟨rfl, rfl⟩ | ⟨g, cap, cur, rfl, _, _, hnc, _⟩
  · simp [Builtin.append_, run_underlying hT, sizeOf, typeInfo, hi, Builtin.lenOf, Builtin.firstCells]
  · simp [Builtin.append_, run_underlying hT, sizeOf, typeInfo, hi, Builtin.lenOf, Builtin.firstCells, hnc, storeCells]
theorem lits_one (l : Cla) : ∀ u ∈ litsCs l, u.oneCell' = true := by
  intro u hu
  obtain ⟨t, _, ht⟩ := List.mem_flatMap.1 hu
  simp [litCs] at ht
  rcases ht with rfl | rfl | rfl <;> rfl
theorem litsCs_back (l : Cla) (j : Nat) (y : Value) (h : (litsCs l)[j]? = some y) : ∃ (i : Nat) (t : MLit), l[i]? = some t ∧ ((j = i * 3 ∧ y = .int .i64 t.var) ∨ (j = i * 3 + 1 ∧ y = .int .i64 t.op) ∨ (j = i * 3 + 2 ∧ y = .int .i64 t.n)) := by
  have hj : j < l.length * 3 := by rw [← litsCs_len]; exact (List.getElem?_eq_some_iff.1 h).1
  have hi : j / 3 < l.length := by omega
  obtain ⟨g0, g1, g2⟩ := litsCs_get l (j / 3) l[j / 3] (by simp [hi])
  refine ⟨j / 3, l[j / 3], by simp [hi], ?_⟩
  rcases (by omega : j = j / 3 * 3 ∨ j = j / 3 * 3 + 1 ∨ j = j / 3 * 3 + 2) with hq | hq | hq
  · rw [← hq, h] at g0; exact Or.inl ⟨hq, Option.some.inj g0⟩
  · rw [← hq, h] at g1; exact Or.inr (Or.inl ⟨hq, Option.some.inj g1⟩)
  · rw [← hq, h] at g2; exact Or.inr (Or.inr ⟨hq, Option.some.inj g2⟩)

/-- Literals are appended, whatever list they lie in. -/
theorem wpList_append_lits (T : TypeId) (hT : Tryz.prog.underlying T = some (.slice 42)) {w : World} {ops : Array Oper} {rest : List Oper} {o : Oper} {a : Act} {Q : Exit → Act → World → Prop} (hgd : o.guard = none) (s x : Operand)
    (ho : o.op = .call { callee := .builtin .append, args := #[s, x], argTypes := #[T, T] }) (base : Nat)
    (v : Value) (xs : Cla) (hs : a.eval s = v) (hown : LOwn base w v xs)
    (u : Value) (l : Cla) (hx : a.eval x = u) (hl : LArg w u l) (hn : xs.length + l.length ≤ 1000) (hbase : base ≤ w.heap.size)
    (h : ∀ v' w', LOwn base w' v' (xs ++ l) → w.grownBy w' v.ownBlock → wpList Tryz.prog ops Q rest (a.put o.dst v') w') : wpList Tryz.prog ops Q (o :: rest) a w := by
  obtain ⟨i0, hi, hz0, hz1, hz2⟩ := info_parts Tryz.infoLit
  obtain ⟨q, c, rfl, hm, hc⟩ := hl
  have hown' : w.ownsRow base 42 3 v xs.length (litsCs xs) := hown
  cases q with
  | none =>
    have hl0 : l = [] := by
      cases l with
      | nil => rfl
      | cons z r => obtain ⟨b, off, hq, _⟩ := hc 0 z rfl; cases hq
    subst hl0
    refine wpList_plain hgd fun K hK => ?_
    have hr := append_no_lit T hT w o.type base xs.length c v _ hown'
    unfold Oper.wp execOp
    simp only [ho, resolve, invoke, builtin, Sem.run_bind, Sem.run_pure, Result.andThen_ok, List.map_toArray, List.map_cons, List.map_nil, hs, hx, List.length_nil, hr]
    exact hK _ _ (h v w (by rw [List.append_nil]; exact hown) ⟨rfl, rfl, rfl, Nat.le_refl _, fun _ _ _ => rfl⟩)
  | some ad =>
    refine wpList_append_own w hgd s x T ho base 42 i0 (.agg #[.int .i64 0, .int .i64 0, .int .i64 0]) 3 24 hT hi hz0 hz1 hz2 rfl (by decide) v xs.length _ hs hown' ad l.length c (litsCs l) hx (litsCs_len l) ?_ (lits_one l) (by unfold maxLen; omega) (by omega) hbase ?_
    · intro j y hy
      obtain ⟨i, t, ht, hcase⟩ := litsCs_back l j y hy
      obtain ⟨b, off, hq, _, c0, c1, c2⟩ := hc i t ht
      cases hq
      rw [add_at]
      rcases hcase with ⟨rfl, rfl⟩ | ⟨rfl, rfl⟩ | ⟨rfl, rfl⟩
      · exact c0
      · rw [← Nat.add_assoc]; exact c1
      · rw [← Nat.add_assoc]; exact c2
    · intro v' w' h1 h2 h3
      refine h v' w' ?_ h2
      show w'.ownsRow _ _ _ _ _ _
      unfold litsCs at *
      rw [List.length_append, List.flatMap_append]
      exact h1
theorem nil_cla (w : World) : LArg w (.slice none 0 0) [] := ⟨none, 0, rfl, ⟨Nat.le_refl _, Nat.zero_le _⟩, fun i z hz => by simp at hz⟩
theorem lit_nil {w : World} {l : Cla} {n c : Nat} (h : LArg w (.slice none n c) l) : l = [] := by
  obtain ⟨a, c2, he, _, hr⟩ := h
  cases l with
  | nil => rfl
  | cons z r =>
    obtain ⟨b, off, hq, _⟩ := hr 0 z rfl
    rw [hq] at he
    cases he
theorem own_lower {base base' : Nat} {w : World} {v : Value} {l : Cla} (hb : base' ≤ base) (h : LOwn base w v l) : LOwn base' w v l := World.ownsRow.mono h hb
theorem own_made_lit (w : World) : LOwn w.heap.size (w.alloc (.cells #[] 42)) (.slice (some ⟨w.heap.size, 0, none⟩) 0 0) [] := World.ownsRow_made w #[] 0 (Nat.le_refl _) (Nat.zero_le _) (by simp)

theorem under_clone_cla : Tryz.prog.underlying 29 = some (.slice 42) := by kernel_rfl
set_option maxHeartbeats 800000 in
set_option maxRecDepth 100000 in
theorem clone_cla (l : Cla) (hl : l.length ≤ 900) (u : Value) (w : World) (hu : LArg w u l) :
    Calls Tryz.prog 136 #[u] w fun e w' => ∃ x, e = .returned x ∧ LOwn w.heap.size w' x l ∧ Below w.heap.size w w' := by
  have HU : Hid (∀ w', Below w.heap.size w w' → LArg w' u l) := fun w' h => LArg.below h hu
  have q22 : ∀ (w : World) (a : Option Addr) (n c n' c' : Nat), (binOp .eql 29 (.slice a n c) (.slice none n' c')).run Tryz.prog w = .ok (.bool a.isNone) w := fun w a n c n' c' => Lib.run_eql_slice_nil w _ _ a n c n' c' under_clone_cla
  obtain ⟨a, c, he, _, _⟩ := id hu
  subst he
  cases a with
  | none =>
    have := lit_nil hu
    subst this
    clear hu HU
    go_enter Tryz.func136, Tryz.ntmps136
    go_wp2
    go_ret
    exact ⟨_, rfl, World.ownsRow_nil _ _ _ _, Below.refl _ _⟩
  | some ad =>
    have HL : Hid (l.length ≤ 900) := hl
    clear hu hl
    go_enter Tryz.func136, Tryz.ntmps136
    go_wp2_with (at_builtin; refine wpList_append_lits 29 under_clone_cla rfl _ _ rfl w.heap.size _ [] rfl (own_made_lit w) _ l rfl (HU.out _ (below_alloc _ _)) ?c1 ?c2 ?_)
    case c1 => have := HL.out; simp; omega
    case c2 => simp
    intro v3 w3 hown3 hgrow
    have HB3 : Hid (Below w.heap.size w w3) := (below_alloc _ _).grown hgrow (by simp) (by intro k hk; simp [Value.ownBlock] at hk; omega)
    have HO3 : Hid (LOwn w.heap.size w3 v3 l) := hown3
    obtain ⟨av, cv, rfl⟩ := own_form (show w3.ownsRow _ _ _ _ _ _ from hown3)
    clear hown3 hgrow
    go_wp2
    go_ret
    exact ⟨_, rfl, HO3.out, HB3.out⟩
theorem under_clone_lits : Tryz.prog.underlying 28 = some (.slice 42) := by kernel_rfl
set_option maxHeartbeats 800000 in
set_option maxRecDepth 100000 in
theorem clone_lits (l : Cla) (hl : l.length ≤ 900) (u : Value) (w : World) (hu : LArg w u l) :
    Calls Tryz.prog 217 #[u] w fun e w' => ∃ x, e = .returned x ∧ LOwn w.heap.size w' x l ∧ Below w.heap.size w w' := by
  have HU : Hid (∀ w', Below w.heap.size w w' → LArg w' u l) := fun w' h => LArg.below h hu
  have q22 : ∀ (w : World) (a : Option Addr) (n c n' c' : Nat), (binOp .eql 28 (.slice a n c) (.slice none n' c')).run Tryz.prog w = .ok (.bool a.isNone) w := fun w a n c n' c' => Lib.run_eql_slice_nil w _ _ a n c n' c' under_clone_lits
  obtain ⟨a, c, he, _, _⟩ := id hu
  subst he
  cases a with
  | none =>
    have := lit_nil hu
    subst this
    clear hu HU
    go_enter Tryz.func217, Tryz.ntmps217
    go_wp2
    go_ret
    exact ⟨_, rfl, World.ownsRow_nil _ _ _ _, Below.refl _ _⟩
  | some ad =>
    have HL : Hid (l.length ≤ 900) := hl
    clear hu hl
    go_enter Tryz.func217, Tryz.ntmps217
    go_wp2_with (at_builtin; refine wpList_append_lits 28 under_clone_lits rfl _ _ rfl w.heap.size _ [] rfl (own_made_lit w) _ l rfl (HU.out _ (below_alloc _ _)) ?c1 ?c2 ?_)
    case c1 => have := HL.out; simp; omega
    case c2 => simp
    intro v3 w3 hown3 hgrow
    have HB3 : Hid (Below w.heap.size w w3) := (below_alloc _ _).grown hgrow (by simp) (by intro k hk; simp [Value.ownBlock] at hk; omega)
    have HO3 : Hid (LOwn w.heap.size w3 v3 l) := hown3
    obtain ⟨av, cv, rfl⟩ := own_form (show w3.ownsRow _ _ _ _ _ _ from hown3)
    clear hown3 hgrow
    go_wp2
    go_ret
    exact ⟨_, rfl, HO3.out, HB3.out⟩
end Go.Proofs.YtijohkhpigjbkaeGreatDoor
/-
  WALKS: package fence: Says.
-/
namespace Go.Proofs.YtijohkhpigjbkaeGreatDoor
open Go.RowKit

theorem fen_call {w2 Y w3 : World} {A : Prop} (h : Below w2.heap.size w2 Y ∧ A) (hb : Below Y.heap.size Y w3) : Below w2.heap.size w2 w3 := h.1.trans (hb.mono h.1.size)

set_option maxHeartbeats 1600000 in
set_option maxRecDepth 100000 in
theorem says_any (vs : List MVar) (hva : VarsAll vs) (pts : List Nat) (h : Nat) (hh : h < 2 ^ 36) (sv pv : Value) (w : World) (hv : VArg w sv vs) (hp : PArg w pv pts) :
    Calls Tryz.prog 86 #[sv, pv, .int .u64 h] w fun e w' => e = .returned (.bool (saysP vs pts h)) ∧ Below w.heap.size w w' := by
  have HV : Hid (∀ w', Below w.heap.size w w' → VArg w' sv vs) := fun w' h => VArg.below h hv
  have HP : Hid (∀ w', Below w.heap.size w w' → PArg w' pv pts) := fun w' h => PArg.below h hp
  have HVO : Hid (VarsAll vs) := hva
  have HH : Hid (h < 2 ^ 36) := hh
  have H6 : Hid (vs.length ≤ 6) := hva.1.1
  have HW36 : Hid (wholeP vs < 2 ^ 36) := of_lt vs hva.1 _
  obtain ⟨q, hq⟩ : ∃ q, wholeP vs = q := ⟨_, rfl⟩
  obtain ⟨r, hr⟩ : ∃ r, lessN (wholeP vs) h = r := ⟨_, rfl⟩
  have HR36 : Hid (r < 2 ^ 36) := by rw [← hr]; exact less_lt 36 _ _ HW36.out
  have hbits := bits_andNot_u64 (wholeP vs) h (by have := HW36.out; omega) (by omega)
  rw [hr, hq] at hbits
  have HQ : Hid (wholeP vs = q) := hq
  have HS : Hid (saysP vs pts h = (lackP vs.length r || !pts.any (stayP h))) := by show _ = _; unfold saysP; rw [hr]
  rw [HS.out]
  have HWH : Hid (∀ w', Below w.heap.size w w' → Calls Tryz.prog 79 #[sv] w' fun e w'' => e = .returned (.int .u64 (q : Int)) ∧ Below w'.heap.size w' w'') := fun w' hb => by
    rw [← HQ.out]; exact whole_any vs HVO.out sv w' (HV.out w' hb)
  have HLA : Hid (∀ w', Below w.heap.size w w' → Calls Tryz.prog 148 #[sv, .int .u64 r] w' fun e w'' => e = .returned (.bool (lackP vs.length r)) ∧ Below w'.heap.size w' w'') := fun w' hb =>
    (lacking_any vs H6.out r HR36.out sv w' (HV.out w' hb)).mono fun e w'' ⟨h1, h2⟩ => ⟨h1, by rw [h2]; exact Below.refl _ _⟩
  have HCO : Hid (∀ w', Below w.heap.size w w' → ∀ b1, w'.cell? ⟨b1, 0, none⟩ = some (.int .u64 h) → Calls Tryz.prog 149 #[pv, .func (.func 147) #[] #[.pointer (some ⟨b1, 0, none⟩)]] w' fun e w'' => e = .returned (.bool (pts.any (stayP h))) ∧ Below w'.heap.size w' w'') := fun w' hb b1 hc =>
    (containsf_parts h HH.out b1 pts pv w' (HP.out w' hb) hc).mono fun e w'' ⟨h1, h2⟩ => ⟨h1, by rw [h2]; exact Below.refl _ _⟩
  obtain ⟨a, c, rfl, _, _⟩ := hv
  obtain ⟨a2, c2, rfl, _, _⟩ := hp
  clear hva hh hq hr
  obtain ⟨L, hL⟩ : ∃ L, lackP vs.length r = L := ⟨_, rfl⟩
  obtain ⟨S, hS⟩ : ∃ S, pts.any (stayP h) = S := ⟨_, rfl⟩
  rw [hL] at HLA ⊢
  rw [hS] at HCO ⊢
  clear hL hS HS
  go_enter Tryz.func86, Tryz.ntmps86
  go_wp2_with fail
  have HB0 : Hid (Below w.heap.size w (w.alloc (.cells #[.int .u64 h] 118))) := below_alloc _ _
  have k0 : (w.alloc (.cells #[.int .u64 h] 118)).cell? ⟨w.heap.size, 0, none⟩ = some (.int .u64 h) := World.cell?_alloc_at _ _ _ 0 (by simp)
  have n0 : w.heap.size < (w.alloc (.cells #[.int .u64 h] 118)).heap.size := by simp
  obtain ⟨W, hW⟩ : ∃ W, w.alloc (.cells #[.int .u64 h] 118) = W := ⟨_, rfl⟩
  rw [hW] at HB0 k0 n0 ⊢
  clear hW
  have HT : Hid (∀ Y, Below W.heap.size W Y → Below w.heap.size w Y) := fun Y hY => HB0.out.trans (hY.mono HB0.out.size)
  cases L
  · go_region_held3 (fun w' => Below W.heap.size W w' ∧ w'.cell? ⟨w.heap.size, 0, none⟩ = some (.int .u64 h))
      ((refine (fun (hB : Below W.heap.size W _) => ⟨hB, (hB.cell (p := ⟨w.heap.size, 0, none⟩) n0).trans k0⟩ : Below W.heap.size W _ → _) ?_; first | exact (Below.refl _ _).drew | exact fen_call (by assumption) hbq))
      (first
        | (go_at_call 79; refine (HWH.out _ (HT.out _ (show Below W.heap.size W _ ∧ _ by assumption).1)).mono ?_; rintro e w3 ⟨rfl, hbq⟩; have hB3 := fen_call (by assumption) hbq)
        | (go_at_call 148; refine (HLA.out _ (HT.out _ (show Below W.heap.size W _ ∧ _ by assumption).1)).mono ?_; rintro e w3 ⟨rfl, hbq⟩; have hB3 := fen_call (by assumption) hbq)
        | (go_at_call 149; refine (HCO.out _ (HT.out _ (show Below W.heap.size W _ ∧ _ by assumption).1) _ (show Below W.heap.size W _ ∧ _ by assumption).2).mono ?_; rintro e w3 ⟨rfl, hbq⟩; have hB3 := fen_call (by assumption) hbq))
    have HB3 : Hid (Below w.heap.size w w3) := HT.out _ hB3
    go_wp2
    go_ret
    exact ⟨ret_bool (by simp), HB3.out⟩
  · have HS : Hid (∀ Y, Below W.heap.size W Y → Below W.heap.size W Y ∧ Y.cell? ⟨w.heap.size, 0, none⟩ = some (.int .u64 h)) := fun Y hY => ⟨hY, (hY.cell (p := ⟨w.heap.size, 0, none⟩) n0).trans k0⟩
    have hHeld := HS.out W.drew (Below.refl _ _).drew
    refine wp_region_held_drew (S := fun Y => Below W.heap.size W Y ∧ Y.cell? ⟨w.heap.size, 0, none⟩ = some (.int .u64 h)) (by kernel_rfl) hHeld (fun _ => ?_)
    refine wpAnyH_take (i := 0) (v := ?v0) rfl (by kernel_rfl) (by kernel_rfl) (by kernel_rfl) (fun _ _ _ h => h) (Or.inl ⟨by rfl, ?y0⟩) hHeld ?r0
    case y0 => intro wq hSw; obtain ⟨q0, q1⟩ := hSw; go_simp; with_reducible rfl
    refine wpAnyH_take (i := 1) (v := ?v1) rfl (by kernel_rfl) (by kernel_rfl) (by kernel_rfl) (fun _ _ _ h => h) (Or.inl ⟨by rfl, ?y1⟩) hHeld ?r1
    case y1 => intro wq hSw; obtain ⟨q0, q1⟩ := hSw; go_simp; with_reducible rfl
    refine wpAnyH_take (i := 3) (v := ?v3) rfl (by kernel_rfl) (by kernel_rfl) (by kernel_rfl) (fun _ _ _ h => h) (Or.inl ⟨by rfl, ?y3⟩) hHeld ?r3
    case y3 => intro wq hSw; obtain ⟨q0, q1⟩ := hSw; go_simp; with_reducible rfl
    refine wpAnyH_ready (rs := [2]) (by kernel_rfl) (by simp) ?_
    refine AllReadyH.cons rfl (fun K hK => ?_) AllReadyH.nil
    go_simp
    refine (HWH.out _ (HT.out _ hHeld.1)).mono ?_
    rintro e w2 ⟨rfl, hb2⟩
    have hB2 : Below W.heap.size W w2 := hHeld.1.trans hb2
    dsimp only
    have hHeld2 := HS.out w2 hB2
    refine hK.out _ _ hHeld2 (fun _ => ?_)
    clear hK
    refine wpAnyH_take (i := 4) (v := ?v4) rfl (by kernel_rfl) (by kernel_rfl) (by kernel_rfl) (fun _ _ _ h => h) (Or.inl ⟨by rfl, ?y4⟩) hHeld2 ?r4
    case y4 => intro wq hSw; obtain ⟨q0, q1⟩ := hSw; go_simp; with_reducible rfl
    refine wpAnyH_ready (rs := [5]) (by kernel_rfl) (by simp) ?_
    refine AllReadyH.cons rfl (fun K hK => ?_) AllReadyH.nil
    go_simp
    refine (HLA.out _ (HT.out _ hHeld2.1)).mono ?_
    rintro e w3 ⟨rfl, hb3⟩
    have hB3 : Below W.heap.size W w3 := hB2.trans (hb3.mono hB2.size)
    dsimp only
    have hHeld3 := HS.out w3 hB3
    refine hK.out _ _ hHeld3 (fun _ => ?_)
    clear hK
    refine wpAnyH_take (i := 6) (v := ?v6) rfl (by kernel_rfl) (by kernel_rfl) (by kernel_rfl) (fun _ _ _ h => h) (Or.inl ⟨by rfl, ?y6⟩) hHeld3 ?r6
    case y6 => intro wq hSw; obtain ⟨q0, q1⟩ := hSw; go_simp; with_reducible rfl
    refine wpAnyH_take (i := 7) rfl (by kernel_rfl) (by kernel_rfl) (by kernel_rfl) (fun _ _ _ h => h) (Or.inr ⟨by rfl, rfl⟩) hHeld3 ?_
    refine wpAnyH_take (i := 8) rfl (by kernel_rfl) (by kernel_rfl) (by kernel_rfl) (fun _ _ _ h => h) (Or.inr ⟨by rfl, rfl⟩) hHeld3 ?_
    refine wpAnyH_take (i := 9) rfl (by kernel_rfl) (by kernel_rfl) (by kernel_rfl) (fun _ _ _ h => h) (Or.inr ⟨by rfl, rfl⟩) hHeld3 ?_
    refine wpAnyH_take (i := 10) rfl (by kernel_rfl) (by kernel_rfl) (by kernel_rfl) (fun _ _ _ h => h) (Or.inr ⟨by rfl, rfl⟩) hHeld3 ?_
    refine wpAnyH_take (i := 11) (v := ?v11) rfl (by kernel_rfl) (by kernel_rfl) (by kernel_rfl) (fun _ _ _ h => h) (Or.inl ⟨by rfl, ?y11⟩) hHeld3 ?r11
    case y11 => intro wq hSw; obtain ⟨q0, q1⟩ := hSw; go_simp; with_reducible rfl
    refine wpAnyH_take (i := 12) (v := ?v12) rfl (by kernel_rfl) (by kernel_rfl) (by kernel_rfl) (fun _ _ _ h => h) (Or.inl ⟨by rfl, ?y12⟩) hHeld3 ?r12
    case y12 => intro wq hSw; obtain ⟨q0, q1⟩ := hSw; go_simp; with_reducible rfl
    refine wpAnyH_done (by kernel_rfl) ?_ _
    have HB3 : Hid (Below w.heap.size w w3) := HT.out _ hB3
    go_wp2
    go_ret
    exact ⟨ret_bool (by simp), HB3.out⟩
end Go.Proofs.YtijohkhpigjbkaeGreatDoor
