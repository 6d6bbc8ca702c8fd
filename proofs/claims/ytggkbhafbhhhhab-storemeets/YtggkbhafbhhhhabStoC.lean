/-
  WALKS: package store: Check, Within, Failed.
-/
import Derived.Test.YtggkbhafbhhhhabStoB
namespace Go.Proofs.Ytggkbhafbhhhhab
open Go.RowKit

/-- One store, or two, in a row of their own. -/
theorem garg_one {w : World} {v : Value} {s : Sto} {B : Nat} (hB : B = w.heap.size) (h : RArg w v s) : GArg (w.alloc (.cells #[v] 27)) (.slice (some ⟨B, 0, none⟩) 1 1) [s] := by
  subst hB
  refine ⟨_, 1, rfl, ⟨by simp, by unfold maxLen; omega⟩, fun i r hr => ?_⟩
  match i, hr with
  | 0, hr => cases hr; exact ⟨_, _, v, rfl, by simp, by simp, RArg.below (below_alloc _ _) h⟩
theorem garg_two {w : World} {v u : Value} {s t : Sto} {B : Nat} (hB : B = w.heap.size) (h : RArg w v s) (k : RArg w u t) : GArg (w.alloc (.cells #[v, u] 27)) (.slice (some ⟨B, 0, none⟩) 2 2) [s, t] := by
  subst hB
  refine ⟨_, 2, rfl, ⟨by simp, by unfold maxLen; omega⟩, fun i r hr => ?_⟩
  match i, hr with
  | 0, hr => cases hr; exact ⟨_, _, v, rfl, by simp, by simp, RArg.below (below_alloc _ _) h⟩
  | 1, hr => cases hr; exact ⟨_, _, u, rfl, by simp, by simp, RArg.below (below_alloc _ _) k⟩

set_option maxHeartbeats 800000 in
set_option maxRecDepth 100000 in
theorem scheck_any (m : Mod) (s : Sto) (vs cs v : Value) (w : World) (hm : MArg w vs cs m) (hv : RArg w v s) :
    Calls Try.prog 19 #[modV vs cs m, v] w fun e w' => e = .returned (.int .i64 (checkL m [s])) ∧ Below w.heap.size w w' := by
  have HMA : Hid (∀ w' : World, Below w.heap.size w w' → MArg w' vs cs m) := fun w' h => MArg.below h hm
  have HVA : Hid (∀ w' : World, Below w.heap.size w w' → RArg w' v s) := fun w' h => RArg.below h hv
  obtain ⟨⟨a1, c1, rfl, _, _⟩, ⟨a2, c2, rfl, _, _⟩⟩ := hm
  obtain ⟨a3, c3, rfl, _, _⟩ := hv
  obtain ⟨R, HR⟩ : ∃ R, Hid (checkL m [s] = R) := ⟨_, rfl⟩
  rw [HR.out]
  unfold modV
  go_enter Try.func19, Try.ntmps19
  go_wp2_with fail
  refine (check_any2 m [s] (.slice a1 m.vars.length c1) (.slice a2 m.cons.length c2) _ _ ?_ ?_).mono ?_
  · exact HMA.out _ ((below_alloc _ _).alloc (by simp) _)
  · exact garg_one (by simp) (HVA.out _ (below_alloc _ _))
  rintro e w1 ⟨rfl, hb1⟩
  rw [HR.out]
  have hb : Below w.heap.size w w1 := (((below_alloc _ _).alloc (by simp) _)).trans (hb1.mono (by simp; omega))
  clear hb1
  go_wp2
  go_ret
  exact ⟨rfl, hb⟩

set_option maxHeartbeats 400000 in
set_option maxRecDepth 100000 in
theorem lacks_any (t : Sto) (v : Value) (b1 b2 k : Nat) (r : List Int) (z : Int) (w : World) (hv : RArg w v t) (ht : t[k]? = some r) (h1 : w.cell? ⟨b1, 0, none⟩ = some v) (h2 : w.cell? ⟨b2, 0, none⟩ = some (.int .i64 k)) :
    Calls Try.prog 35 #[.int .i64 z, .pointer (some ⟨b1, 0, none⟩), .pointer (some ⟨b2, 0, none⟩)] w fun e w' => e = .returned (.bool (!hasB r z)) ∧ w' = w := by
  obtain ⟨a', c, rfl, hm, hr⟩ := hv
  have hkl : k < t.length := (List.getElem?_eq_some_iff.1 ht).1
  obtain ⟨b, off, x, rfl, hlt, hc, hx⟩ := hr k r ht
  have HX : Hid (IArg w x r) := hx
  obtain ⟨a3, c3, rfl, _, _⟩ := hx
  unfold maxLen at hm
  obtain ⟨hm1, hm⟩ := hm
  clear hr ht
  go_enter Try.func35, Try.ntmps35
  go_wp2_with fail
  refine (contains_ints r _ z _ HX.out).mono ?_
  rintro e w ⟨rfl, rfl⟩
  go_wp2
  go_ret
  exact ⟨rfl, rfl⟩
theorem enters_lacks (args : Array Value) (w' : World) : Sem.run Try.prog (callFunc 35 args) w' = .ok (.enter 35 args) w' := by
  simp [callFunc, go_sem, Try.func35, Try.f35]

def withinA (m : Mod) (s t : Sto) : Bool × Int := if checkL m [s, t] = 0 then (withinS s t, 0) else (false, checkL m [s, t])
theorem checkL_two (m : Mod) (s t : Sto) : checkL m [s, t] = 0 ↔ checkM m = 0 ∧ checkV m.vars s = 0 ∧ checkV m.vars t = 0 := by
  unfold checkL
  by_cases h : checkM m = 0
  · rw [if_pos h]
    simp only [List.map, firstE]
    by_cases h1 : checkV m.vars s = 0
    · rw [if_pos h1]
      by_cases h2 : checkV m.vars t = 0
      · simp [h, h1, h2]
      · simp [h2]
    · simp [h1]
  · rw [if_neg h]; simp [h]

set_option maxHeartbeats 1600000 in
set_option maxRecDepth 100000 in
theorem swithin_any (m : Mod) (s t : Sto) (vs cs v u : Value) (w : World) (hm : MArg w vs cs m) (hv : RArg w v s) (hu : RArg w u t) :
    Calls Try.prog 8 #[modV vs cs m, v, u] w fun e w' => e = .returned (.tuple #[.bool (withinA m s t).1, .int .i64 (withinA m s t).2]) ∧ Below w.heap.size w w' := by
  have HMA : Hid (∀ w' : World, Below w.heap.size w w' → MArg w' vs cs m) := fun w' h => MArg.below h hm
  have HVA : Hid (∀ w' : World, Below w.heap.size w w' → RArg w' v s) := fun w' h => RArg.below h hv
  have HUA : Hid (∀ w' : World, Below w.heap.size w w' → RArg w' u t) := fun w' h => RArg.below h hu
  obtain ⟨⟨a1, c1, rfl, _, _⟩, ⟨a2, c2, rfl, _, _⟩⟩ := hm
  obtain ⟨a3, c3, rfl, hl3, _⟩ := hv
  obtain ⟨a4, c4, rfl, hl4, _⟩ := hu
  unfold maxLen at hl3 hl4
  obtain ⟨hl31, hl3⟩ := hl3
  obtain ⟨hl41, hl4⟩ := hl4
  obtain ⟨R, hR⟩ : ∃ R, withinA m s t = R := ⟨_, rfl⟩
  rw [hR]
  obtain ⟨er, her⟩ : ∃ er, checkL m [s, t] = er := ⟨_, rfl⟩
  have HER : Hid (checkL m [s, t] = er) := her
  have HE : Hid (R = if er = 0 then (withinS s t, 0) else (false, er)) := by rw [← hR, ← her]; rfl
  have HL : Hid (er = 0 → s.length = t.length) := by
    intro h0
    rw [← her, checkL_two] at h0
    have h1 := ((checkV_ok _ _).1 h0.2.1).1
    have h2 := ((checkV_ok _ _).1 h0.2.2).1
    omega
  clear hR her
  unfold modV
  go_enter Try.func8, Try.ntmps8
  go_wp2_with fail
  refine (check_any2 m [s, t] (.slice a1 m.vars.length c1) (.slice a2 m.cons.length c2) _ _ ?_ ?_).mono ?_
  · exact HMA.out _ (((below_alloc _ _).alloc (by simp) _).alloc (by simp; omega) _)
  · exact garg_two (by simp) (HVA.out _ ((below_alloc _ _).alloc (by simp) _)) (HUA.out _ ((below_alloc _ _).alloc (by simp) _))
  rintro e w1 ⟨rfl, hb1⟩
  rw [HER.out]
  have d1 : w1.cell? ⟨w.heap.size + 1, 0, none⟩ = some (.slice a4 t.length c4) := by
    refine (hb1.cell (by simp)).trans ((World.cell?_alloc_past _ _ _ (by simp)).trans ?_)
    exact World.cell?_alloc_at _ _ _ 0 (by simp)
  have HB1 : Hid (Below w.heap.size w w1) := (((below_alloc _ _).alloc (by simp) _).alloc (by simp; omega) _).trans (hb1.mono (by simp; omega))
  have hs1 : w.heap.size + 3 ≤ w1.heap.size := by simpa using hb1.size
  clear hb1
  by_cases he : er = 0
  · subst he
    have HL2 : Hid (s.length = t.length) := HL.out rfl
    have HE2 : Hid (R = ((s.zip t).all (fun p => withinR p.1 p.2), 0)) := by rw [HE.out, if_pos rfl]; rfl
    go_wp2_with fail
    go_loopw [22] (fun i wr => ∃ k : Nat, k ≤ s.length ∧ i = .int .i64 k ∧ Hid (((s.zip t).take k).all (fun p => withinR p.1 p.2) = true) ∧ Below w1.heap.size w1 wr) (fun i _ => s.length - (intOf i).toNat)
    case atStart => exact ⟨0, by omega, rfl, rfl, Below.refl _ _⟩
    case round =>
      obtain ⟨k, hk, rfl, hall, hbw⟩ := hrel
      have HBW : Hid (Below w.heap.size w wr) := HB1.out.trans (hbw.mono (by omega))
      have hsz := hbw.size
      by_cases hlt : k < s.length
      · obtain ⟨r, hr⟩ : ∃ r, s[k]? = some r := ⟨s[k], by simp [hlt]⟩
        obtain ⟨q, hq0⟩ : ∃ q, t[k]? = some q := ⟨t[k]'(by rw [← HL2.out]; exact hlt), by simp⟩
        have HG : Hid ((s.zip t)[k]? = some (r, q)) := by show _ = _; rw [List.getElem?_zip_eq_some]; exact ⟨hr, hq0⟩
        have HQ : Hid (t[k]? = some q) := hq0
        obtain ⟨a2', c2', hva, _, hrc⟩ := HVA.out _ HBW.out
        obtain ⟨b, off, x, hax, hb, hc, hix⟩ := hrc k r hr
        have ha2 : a3 = some ⟨b, off, none⟩ := by cases hva; exact hax
        subst ha2
        have HIX : Hid (IArg wr x r) := hix
        obtain ⟨a5, c5, rfl, _, _⟩ := hix
        clear hr hq0 hva hrc hax
        go_wp2_with fail
        have hwk : (wr.alloc (.cells #[.int .i64 (k : Int)] 3)).cell? ⟨wr.heap.size, 0, none⟩ = some (.int .i64 k) := by simp
        have hbx : Below w.heap.size w (wr.alloc (.cells #[.int .i64 (k : Int)] 3)) := HBW.out.trans ((below_alloc _ _).mono HBW.out.size)
        have hbx0 : Below w1.heap.size w1 (wr.alloc (.cells #[.int .i64 (k : Int)] 3)) := hbw.alloc hsz _
        have hsx : (wr.alloc (.cells #[.int .i64 (k : Int)] 3)).heap.size = wr.heap.size + 1 := by simp
        obtain ⟨wx, hwx⟩ : ∃ wx : World, wx = wr.alloc (.cells #[.int .i64 (k : Int)] 3) := ⟨_, rfl⟩
        rw [← hwx] at hwk hbx hbx0 hsx ⊢
        have HIX2 : Hid (IArg wx (.slice a5 r.length c5) r) := by rw [hwx]; exact IArg.below (below_alloc _ _) HIX.out
        clear hwx
        refine (containsf_ints 35 _ (fun z => !hasB q z) r _ _ HIX2.out ⟨enters_lacks, ?_⟩).mono ?_
        · intro z w2 hb2
          have g1 := (hb2.cell (p := ⟨w.heap.size + 1, 0, none⟩) (by simp only; omega)).trans ((hbx0.cell (p := ⟨w.heap.size + 1, 0, none⟩) (by simp only; omega)).trans d1)
          have g2 := (hb2.cell (p := ⟨wr.heap.size, 0, none⟩) (by simp only; omega)).trans hwk
          refine (lacks_any t _ _ _ k q z w2 (HUA.out _ (hbx.trans (hb2.mono (by omega)))) HQ.out g1 g2).mono ?_
          rintro e w3 ⟨rfl, rfl⟩
          exact ⟨rfl, Below.refl _ _⟩
        rintro e w2 ⟨rfl, hb2⟩
        rw [any_not]
        have hbt : Below w1.heap.size w1 w2 := hbx0.trans (hb2.mono (by omega))
        cases hq : r.all (hasB q)
        · have HN : Hid (R = (false, 0)) := by
            have := all_hit (fun p : List Int × List Int => withinR p.1 p.2) (s.zip t) k (r, q) HG.out hq
            rw [HE2.out, this]; rfl
          clear hq
          go_wp2
          go_ret2
          exact ⟨by rw [HN.out]; rfl, HB1.out.trans (hbt.mono (by omega))⟩
        · have HN : Hid (((s.zip t).take (k + 1)).all (fun p => withinR p.1 p.2) = true) := all_next _ (s.zip t) k (r, q) HG.out hall.out hq
          clear hq
          go_wp2
          go_roundw
          case rel => exact ⟨k + 1, by omega, by go_num, HN, hbt⟩
          case measure => simp [intOf]; omega
      · have HN : Hid (R = (true, 0)) := by rw [HE2.out, all_end _ _ k (by rw [List.length_zip, ← HL2.out]; omega) hall.out]; rfl
        go_wp2
        go_ret2
        exact ⟨by rw [HN.out]; rfl, HBW.out⟩
  · have HN : Hid (R = (false, er)) := by rw [HE.out, if_neg he]; rfl
    have he2 : (er != 0) = true := by simpa using he
    clear he
    go_wp2
    go_ret2
    exact ⟨by rw [HN.out]; rfl, HB1.out⟩

set_option maxHeartbeats 400000 in
theorem empty_any (r : List Int) (v : Value) (w : World) (hv : IArg w v r) :
    Calls Try.prog 55 #[v] w fun e w' => e = .returned (.bool (decide (r.length = 0))) ∧ w' = w := by
  obtain ⟨a, c, rfl, _, _⟩ := hv
  by_cases h : r.length = 0
  · have g : ((r.length : Int) == 0) = true := by simp [h]
    have h1 : decide (r.length = 0) = true := decide_eq_true h
    rw [h1]; clear h h1
    go_enter Try.func55, Try.ntmps55
    go_wp2
    go_ret
    exact ⟨rfl, rfl⟩
  · have g : ((r.length : Int) == 0) = false := by simpa using h
    have h1 : decide (r.length = 0) = false := decide_eq_false h
    rw [h1]; clear h h1
    go_enter Try.func55, Try.ntmps55
    go_wp2
    go_ret
    exact ⟨rfl, rfl⟩

set_option maxHeartbeats 800000 in
set_option maxRecDepth 100000 in
theorem indexf_empty (s : Sto) (v : Value) (w : World) (hv : RArg w v s) :
    Calls Try.prog 65 #[v, .func (.func 55) #[] #[]] w fun e w' => (∃ z : Int, e = .returned (.int .i64 z) ∧ decide (0 ≤ z) = failedS s) ∧ w' = w := by
  obtain ⟨a, c, rfl, hm, hr⟩ := hv
  have HV : Hid (∀ (i : Nat) (r : List Int), s[i]? = some r → ∃ b off x, a = some ⟨b, off, none⟩ ∧ b < w.heap.size ∧ w.cell? ⟨b, off + i, none⟩ = some x ∧ IArg w x r) := hr
  obtain ⟨R, hR⟩ : ∃ R, failedS s = R := ⟨_, rfl⟩
  rw [hR]
  have HR : Hid ((s.any fun r => decide (r.length = 0)) = R) := hR
  unfold maxLen at hm
  obtain ⟨hm1, hm⟩ := hm
  clear hr hR
  go_enter Try.func65, Try.ntmps65
  go_wp2_with fail
  go_loop [8] (fun i => ∃ m : Nat, m ≤ s.length ∧ i = .int .i64 m ∧ Hid ((s.take m).any (fun r => decide (r.length = 0)) = false)) (fun i => s.length - (intOf i).toNat)
  case atStart => exact ⟨0, by omega, rfl, rfl⟩
  case round =>
    obtain ⟨m, hml, rfl, hall⟩ := hrel
    by_cases hlt : m < s.length
    · obtain ⟨r, hz⟩ : ∃ r, s[m]? = some r := ⟨s[m], by simp [hlt]⟩
      obtain ⟨b, off, x, ha, hb, hc, hx⟩ := HV.out m r hz
      have HX : Hid (IArg w x r) := hx
      obtain ⟨a5, c5, rfl, _, _⟩ := hx
      have HZ : Hid (s[m]? = some r) := hz
      subst ha
      clear hz
      cases hq : decide (r.length = 0)
      · have HN : Hid ((s.take (m + 1)).any (fun r => decide (r.length = 0)) = false) := any_next (fun r : List Int => decide (r.length = 0)) s m r HZ.out hall.out hq
        have HQ : Hid (decide (r.length = 0) = false) := hq
        clear hq
        go_wp2_with fail
        refine (empty_any r _ _ HX.out).mono ?_
        rintro e w ⟨rfl, rfl⟩
        rw [HQ.out]
        go_wp2
        go_round
        case rel => exact ⟨m + 1, by omega, by go_num, HN⟩
        case measure => simp [intOf]; omega
      · have HN : Hid (R = true) := by rw [← HR.out]; exact any_hit (fun r : List Int => decide (r.length = 0)) s m r HZ.out hq
        have HQ : Hid (decide (r.length = 0) = true) := hq
        clear hq
        go_wp2_with fail
        refine (empty_any r _ _ HX.out).mono ?_
        rintro e w ⟨rfl, rfl⟩
        rw [HQ.out]
        go_wp2
        go_ret
        exact ⟨⟨_, rfl, by rw [HN.out]; simp⟩, rfl⟩
    · have HN : Hid (R = false) := by rw [← HR.out]; exact any_end _ s m hlt hall.out
      go_wp2
      go_ret
      exact ⟨⟨_, rfl, by rw [HN.out]; rfl⟩, rfl⟩

set_option maxHeartbeats 400000 in
theorem containsf_empty (s : Sto) (v : Value) (w : World) (hv : RArg w v s) :
    Calls Try.prog 54 #[v, .func (.func 55) #[] #[]] w fun e w' => e = .returned (.bool (failedS s)) ∧ w' = w := by
  go_enter Try.func54, Try.ntmps54
  go_wp2_with fail
  refine (indexf_empty s v _ hv).mono ?_
  rintro e w ⟨⟨z, rfl, hz⟩, rfl⟩
  have HZ : Hid (decide (0 ≤ z) = failedS s) := hz
  clear hz
  go_wp2
  go_ret
  exact ⟨ret_bool HZ.out, rfl⟩

set_option maxHeartbeats 400000 in
theorem sift_failed (s : Sto) (v : Value) (w : World) (hv : RArg w v s) :
    Calls Try.prog 37 #[v] w fun e w' => e = .returned (.bool (failedS s)) ∧ w' = w := by
  go_enter Try.func37, Try.ntmps37
  go_wp2_with fail
  refine (containsf_empty s v _ hv).mono ?_
  rintro e w ⟨rfl, rfl⟩
  go_wp2
  go_ret
  exact ⟨rfl, rfl⟩

def failedA (m : Mod) (s : Sto) : Bool × Int := if checkL m [s] = 0 then (failedS s, 0) else (false, checkL m [s])
set_option maxHeartbeats 800000 in
set_option maxRecDepth 100000 in
theorem sfailed_any (m : Mod) (s : Sto) (vs cs v : Value) (w : World) (hm : MArg w vs cs m) (hv : RArg w v s) :
    Calls Try.prog 9 #[modV vs cs m, v] w fun e w' => e = .returned (.tuple #[.bool (failedA m s).1, .int .i64 (failedA m s).2]) ∧ Below w.heap.size w w' := by
  have HMA : Hid (∀ w' : World, Below w.heap.size w w' → MArg w' vs cs m) := fun w' h => MArg.below h hm
  have HVA : Hid (∀ w' : World, Below w.heap.size w w' → RArg w' v s) := fun w' h => RArg.below h hv
  obtain ⟨⟨a1, c1, rfl, _, _⟩, ⟨a2, c2, rfl, _, _⟩⟩ := hm
  obtain ⟨a3, c3, rfl, _, _⟩ := hv
  obtain ⟨R, hR⟩ : ∃ R, failedA m s = R := ⟨_, rfl⟩
  rw [hR]
  obtain ⟨er, her⟩ : ∃ er, checkL m [s] = er := ⟨_, rfl⟩
  have HER : Hid (checkL m [s] = er) := her
  have HE : Hid (R = if er = 0 then (failedS s, 0) else (false, er)) := by rw [← hR, ← her]; rfl
  clear hR her
  unfold modV
  go_enter Try.func9, Try.ntmps9
  go_wp2_with fail
  refine (check_any2 m [s] (.slice a1 m.vars.length c1) (.slice a2 m.cons.length c2) _ _ ?_ ?_).mono ?_
  · exact HMA.out _ ((below_alloc _ _).alloc (by simp) _)
  · exact garg_one (by simp) (HVA.out _ (below_alloc _ _))
  rintro e w1 ⟨rfl, hb1⟩
  rw [HER.out]
  have HB1 : Hid (Below w.heap.size w w1) := (((below_alloc _ _).alloc (by simp) _)).trans (hb1.mono (by simp; omega))
  clear hb1
  by_cases he : er = 0
  · subst he
    have HE2 : Hid (R = (failedS s, 0)) := by rw [HE.out, if_pos rfl]; rfl
    go_wp2_with fail
    refine (sift_failed s _ _ (HVA.out _ HB1.out)).mono ?_
    rintro e w1 ⟨rfl, rfl⟩
    go_wp2
    go_ret2
    exact ⟨by rw [HE2.out]; rfl, HB1.out⟩
  · have HN : Hid (R = (false, er)) := by rw [HE.out, if_neg he]; rfl
    have he2 : (er != 0) = true := by simpa using he
    clear he
    go_wp2
    go_ret2
    exact ⟨by rw [HN.out]; rfl, HB1.out⟩
end Go.Proofs.Ytggkbhafbhhhhab
