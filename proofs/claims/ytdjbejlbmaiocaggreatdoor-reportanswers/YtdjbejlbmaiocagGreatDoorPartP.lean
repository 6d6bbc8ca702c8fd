/-
  PART 16 of what the proof leans on (ModR, RepA, RepBld, RepB, RepC, RdA, RdB, RepP, RepD, RfPlain).
-/
import Derived.Test.YtdjbejlbmaiocagGreatDoorPartO
import Derived.Shelf.Strings.BuilderK
import Derived.Lib.AppendIntMem
import Derived.Lib.ItoaLen
import Derived.Lib.SlBytesRow
import Derived.KernelRfl
/-
  WALK: package model: All.
-/
namespace Go.Proofs.YtdjbejlbmaiocagGreatDoor
open Go.RowKit

set_option maxHeartbeats 1600000 in
set_option maxRecDepth 100000 in
theorem mall_any (m : Mod) (vals : List Int) (vs cs v : Value) (w : World) (hm : MArg w vs cs m) (hv : IArg w v vals) :
    Calls Tryz.prog 19 #[modV vs cs m, v] w fun e w' => e = .returned (.tuple #[.bool (allA m vals).1, .int .i64 (allA m vals).2]) ∧ Below w.heap.size w w' := by
  have HMA : Hid (∀ w' : World, Below w.heap.size w w' → MArg w' vs cs m) := fun w' h => MArg.below h hm
  have HVA : Hid (∀ w' : World, Below w.heap.size w w' → IArg w' v vals) := fun w' h => IArg.below h hv
  obtain ⟨⟨a1, c1, rfl, hl1, hr1⟩, ⟨a2, c2, rfl, hl2, hr2⟩⟩ := hm
  obtain ⟨a3, c3, rfl, hl3, hr3⟩ := hv
  have HV1 : Hid (∀ (i : Nat) (t : MVar), m.vars[i]? = some t → t.name.size ≤ maxLen ∧ ∃ b off, a1 = some ⟨b, off, none⟩ ∧ b < w.heap.size ∧
    w.cell? ⟨b, off + i * 3, none⟩ = some (.string t.name) ∧ w.cell? ⟨b, off + i * 3 + 1, none⟩ = some (.int .i64 t.lo) ∧ w.cell? ⟨b, off + i * 3 + 2, none⟩ = some (.int .i64 t.hi)) := hr1
  have HC : Hid (∀ (i : Nat) (t : MCon), m.cons[i]? = some t → ∃ b off vv vc vr vl, a2 = some ⟨b, off, none⟩ ∧ b < w.heap.size ∧
    w.cell? ⟨b, off + i * 6, none⟩ = some (.int .i64 t.kind) ∧ w.cell? ⟨b, off + i * 6 + 1, none⟩ = some vv ∧ w.cell? ⟨b, off + i * 6 + 2, none⟩ = some vc ∧
    w.cell? ⟨b, off + i * 6 + 3, none⟩ = some (.int .i64 t.n) ∧ w.cell? ⟨b, off + i * 6 + 4, none⟩ = some vr ∧ w.cell? ⟨b, off + i * 6 + 5, none⟩ = some vl ∧ KArg w vv vc vr vl t) := hr2
  have HV : Hid (∀ (i : Nat) (z : Int), vals[i]? = some z → ∃ b off, a3 = some ⟨b, off, none⟩ ∧ b < w.heap.size ∧ w.cell? ⟨b, off + i, none⟩ = some (.int .i64 z)) := hr3
  unfold maxLen at hl1 hl2 hl3
  obtain ⟨hl11, hl1⟩ := hl1
  obtain ⟨hl21, hl2⟩ := hl2
  obtain ⟨hl31, hl3⟩ := hl3
  obtain ⟨R, hR⟩ : ∃ R, allA m vals = R := ⟨_, rfl⟩
  rw [hR]
  obtain ⟨er, her⟩ : ∃ er, checkM m = er := ⟨_, rfl⟩
  have HER : Hid (checkM m = er) := her
  have HE : Hid (R = if er = 0 then
    (if vals.length = m.vars.length then ((m.vars.zip vals).all (fun p => insideV p.1 p.2) && m.cons.all (fun c => holdsC c vals), 0) else (false, 1))
    else (false, er)) := by rw [← hR, ← her]; rfl
  clear hR her hr1 hr2 hr3
  unfold modV
  go_enter Tryz.func19, Tryz.ntmps19
  go_wp2_with fail
  refine (check_model m (.slice a1 m.vars.length c1) (.slice a2 m.cons.length c2) _ ?_).mono ?_
  · exact HMA.out _ (below_alloc _ _)
  rintro e w1 ⟨rfl, hb1⟩
  rw [HER.out]
  have d0 : w1.cell? ⟨w.heap.size, 0, none⟩ = some (.slice a1 m.vars.length c1) := (hb1.cell (by simp)).trans (by simp)
  have d1 : w1.cell? ⟨w.heap.size, 1, none⟩ = some (.slice a2 m.cons.length c2) := (hb1.cell (by simp)).trans (by simp)
  have HD1 : Hid (w1.cell? ⟨w.heap.size, 1, none⟩ = some (.slice a2 m.cons.length c2)) := d1
  have hs1 : w.heap.size + 1 ≤ w1.heap.size := by simpa using hb1.size
  have HB1 : Hid (Below w.heap.size w w1) := (below_alloc _ _).trans (hb1.mono (by simp))
  clear hb1
  by_cases he : er = 0
  · subst he
    by_cases hl : vals.length = m.vars.length
    · have g0 : ((vals.length : Int) != (m.vars.length : Int)) = false := by simp [hl]
      have HL : Hid (vals.length = m.vars.length) := hl
      have HE2 : Hid (R = ((m.vars.zip vals).all (fun p => insideV p.1 p.2) && m.cons.all (fun c => holdsC c vals), 0)) := by rw [HE.out, if_pos rfl, if_pos hl]; rfl
      clear hl
      go_wp2_with fail
      go_loopw [25] (fun i wr => ∃ k : Nat, k ≤ m.vars.length ∧ i = .int .i64 k ∧ Hid (((m.vars.zip vals).take k).all (fun p => insideV p.1 p.2) = true) ∧ Below w1.heap.size w1 wr) (fun i _ => m.vars.length - (intOf i).toNat)
      case atStart => exact ⟨0, by omega, rfl, rfl, Below.refl _ _⟩
      case round =>
        obtain ⟨k, hk, rfl, hall, hbw⟩ := hrel
        have HBW : Hid (Below w.heap.size w wr) := HB1.out.trans (hbw.mono (by omega))
        have HBW1 : Hid (Below w1.heap.size w1 wr) := hbw
        by_cases hlt : k < m.vars.length
        · have hlt' : k < vals.length := by rw [HL.out]; exact hlt
          obtain ⟨x, hx⟩ : ∃ x, vals[k]? = some x := ⟨vals[k], by simp [hlt']⟩
          obtain ⟨t, ht⟩ : ∃ t, m.vars[k]? = some t := ⟨m.vars[k], by simp [hlt]⟩
          have HG : Hid ((m.vars.zip vals)[k]? = some (t, x)) := by show _ = _; rw [List.getElem?_zip_eq_some]; exact ⟨ht, hx⟩
          obtain ⟨b, off, rfl, hb, e0⟩ := HV.out k x hx
          obtain ⟨_, b', off', rfl, hb', f0, f1, f2⟩ := HV1.out k t ht
          have e1 := (HBW.out.cell (p := ⟨b, off + k, none⟩) hb).trans e0
          have k0 := (HBW.out.cell (p := ⟨b', off' + k * 3, none⟩) hb').trans f0
          have k1 := (HBW.out.cell (p := ⟨b', off' + k * 3 + 1, none⟩) hb').trans f1
          have k2 := (HBW.out.cell (p := ⟨b', off' + k * 3 + 2, none⟩) hb').trans f2
          have hbr : b < wr.heap.size := Nat.lt_of_lt_of_le hb HBW.out.size
          clear hx ht e0 f0 f1 f2 hb hb' hbw
          by_cases q1 : x < t.lo
          · have HN : Hid (R = (false, 0)) := by
              have := all_hit (fun p : MVar × Int => insideV p.1 p.2) (m.vars.zip vals) k (t, x) HG.out (by simp [insideV, q1])
              rw [HE2.out, this]; rfl
            have q2 : decide (x < t.lo) = true := decide_eq_true q1
            go_wp2
            go_quiet (fail)
            go_wp2
            go_ret2
            exact ⟨by rw [HN.out]; rfl, below_drewN (HBW.out.trans ((below_alloc _ _).mono HBW.out.size)) _⟩
          · have q2 : decide (x < t.lo) = false := decide_eq_false q1
            by_cases q3 : t.hi < x
            · have HN : Hid (R = (false, 0)) := by
                have := all_hit (fun p : MVar × Int => insideV p.1 p.2) (m.vars.zip vals) k (t, x) HG.out (by simp [insideV, q3])
                rw [HE2.out, this]; rfl
              clear q1
              go_wp2
              go_quiet (fail)
              go_wp2
              go_ret2
              exact ⟨by rw [HN.out]; rfl, below_drewN (HBW.out.trans ((below_alloc _ _).mono HBW.out.size)) _⟩
            · have HN : Hid (((m.vars.zip vals).take (k + 1)).all (fun p => insideV p.1 p.2) = true) := all_next (fun p : MVar × Int => insideV p.1 p.2) (m.vars.zip vals) k (t, x) HG.out hall.out (by simp [insideV]; omega)
              have q4 : decide (t.hi < x) = false := decide_eq_false q3
              clear q1 q3
              go_wp2
              go_quiet (fail)
              go_wp2
              go_roundw
              case rel => exact ⟨k + 1, by omega, by go_num, HN, below_drewN (HBW1.out.alloc HBW1.out.size _) _⟩
              case measure => simp [intOf]; omega
        · have HA : Hid ((m.vars.zip vals).all (fun p => insideV p.1 p.2) = true) := all_end _ _ k (by rw [List.length_zip, HL.out]; omega) hall.out
          have HE3 : Hid (R = (m.cons.all (fun c => holdsC c vals), 0)) := by rw [HE2.out, HA.out, Bool.true_and]; rfl
          have HBD : Hid (∀ x ∈ vals, -50 ≤ x ∧ x ≤ 50) := by
            intro x hx
            obtain ⟨i, hi⟩ := List.mem_iff_getElem?.1 hx
            have hil : i < m.vars.length := by rw [← HL.out]; exact (List.getElem?_eq_some_iff.1 hi).1
            have ht : m.vars[i]? = some m.vars[i] := by simp [hil]
            have hvo := var_ok m HER.out i _ ht
            have := List.all_eq_true.1 HA.out (m.vars[i], x) (List.mem_of_getElem? (i := i) (by rw [List.getElem?_zip_eq_some]; exact ⟨ht, hi⟩))
            simp [insideV] at this
            omega
          have e1 : wr.cell? ⟨w.heap.size, 1, none⟩ = some (.slice a2 m.cons.length c2) := (hbw.cell (p := ⟨w.heap.size, 1, none⟩) (by simp only; omega)).trans d1
          obtain ⟨wo, rfl⟩ : ∃ wo : World, wo = wr := ⟨_, rfl⟩
          go_wp2
          clear hk hall hbw hlt e1
          go_loopw [50] (fun i wr => ∃ k : Nat, k ≤ m.cons.length ∧ i = .int .i64 k ∧ Hid ((m.cons.take k).all (fun c => holdsC c vals) = true) ∧ Below w.heap.size w wr) (fun i _ => m.cons.length - (intOf i).toNat)
          case atStart => exact ⟨0, by omega, rfl, rfl, HBW.out⟩
          case round =>
            obtain ⟨j, hj, rfl, hall, hbw⟩ := hrel
            have HBR : Hid (Below w.heap.size w wr) := hbw
            clear hbw
            by_cases hlt : j < m.cons.length
            · obtain ⟨c, hc⟩ : ∃ c, m.cons[j]? = some c := ⟨m.cons[j], by simp [hlt]⟩
              have HCC : Hid (m.cons[j]? = some c) := hc
              obtain ⟨b, off, vv, vc, vr, vl, ha, hb, f0, f1, f2, f3, f4, f5, hka⟩ := HC.out j c hc
              subst ha
              have e0 := (HBR.out.cell (p := ⟨b, off + j * 6, none⟩) hb).trans f0
              have e1 := (HBR.out.cell (p := ⟨b, off + j * 6 + 1, none⟩) hb).trans f1
              have e2 := (HBR.out.cell (p := ⟨b, off + j * 6 + 2, none⟩) hb).trans f2
              have e3 := (HBR.out.cell (p := ⟨b, off + j * 6 + 3, none⟩) hb).trans f3
              have e4 := (HBR.out.cell (p := ⟨b, off + j * 6 + 4, none⟩) hb).trans f4
              have e5 := (HBR.out.cell (p := ⟨b, off + j * 6 + 5, none⟩) hb).trans f5
              have HK : Hid (KArg wr vv vc vr vl c) := KArg.below HBR.out hka
              have HCE : Hid (conE vals.length c = 0) := by rw [HL.out]; exact con_ok m HER.out j c hc
              obtain ⟨⟨q1, r1, rfl, _, _⟩, ⟨q2, r2, rfl, _, _⟩, ⟨q3, r3, rfl, _, _⟩, ⟨q4, r4, rfl, _, _⟩⟩ := hka
              clear hc f0 f1 f2 f3 f4 f5 hb
              cases hq : holdsC c vals
              · have HN : Hid (R = (false, 0)) := by rw [HE3.out, all_hit (fun c => holdsC c vals) m.cons j c HCC.out hq]; rfl
                go_wp2_with fail
                refine (holds_any c vals _ _ _ _ _ _ (KArg.below (below_alloc _ _) HK.out) (HVA.out _ (HBR.out.trans ((below_alloc _ _).mono HBR.out.size))) HCE.out HBD.out).mono ?_
                rintro e w2 ⟨rfl, hb2⟩
                rw [hq]
                have hb3 : Below w.heap.size w w2 := (HBR.out.trans ((below_alloc _ _).mono HBR.out.size)).trans (hb2.mono (by have := HBR.out.size; simp; omega))
                clear hb2 hq
                go_wp2
                go_ret2
                exact ⟨by rw [HN.out]; rfl, hb3⟩
              · have HN : Hid ((m.cons.take (j + 1)).all (fun c => holdsC c vals) = true) := all_next (fun c => holdsC c vals) m.cons j c HCC.out hall.out hq
                go_wp2_with fail
                refine (holds_any c vals _ _ _ _ _ _ (KArg.below (below_alloc _ _) HK.out) (HVA.out _ (HBR.out.trans ((below_alloc _ _).mono HBR.out.size))) HCE.out HBD.out).mono ?_
                rintro e w2 ⟨rfl, hb2⟩
                rw [hq]
                have hb3 : Below w.heap.size w w2 := (HBR.out.trans ((below_alloc _ _).mono HBR.out.size)).trans (hb2.mono (by have := HBR.out.size; simp; omega))
                clear hb2 hq
                go_wp2
                go_roundw
                case rel => exact ⟨j + 1, by omega, by go_num, HN, hb3⟩
                case measure => simp [intOf]; omega
            · have HN : Hid (R = (true, 0)) := by rw [HE3.out, all_end _ m.cons j hlt hall.out]; rfl
              go_wp2
              go_ret2
              exact ⟨by rw [HN.out]; rfl, HBR.out⟩
    · have g0 : ((vals.length : Int) != (m.vars.length : Int)) = true := by simp; omega
      have HN : Hid (R = (false, 1)) := by rw [HE.out, if_pos rfl, if_neg hl]; rfl
      clear hl
      go_wp2
      go_ret2
      exact ⟨by rw [HN.out]; rfl, HB1.out⟩
  · have HN : Hid (R = (false, er)) := by rw [HE.out, if_neg he]; rfl
    have he2 : (er != 0) = true := by simpa using he
    clear he
    go_wp2
    go_ret2
    exact ⟨by rw [HN.out]; rfl, HB1.out⟩
end Go.Proofs.YtdjbejlbmaiocagGreatDoor
/-
  WALKS: package report: givenOf, Verify.
-/
namespace Go.Proofs.YtdjbejlbmaiocagGreatDoor
open Go.RowKit Go.Maps

def givenA (m : Mod) (vals : List Int) : List Cla × Int := if vals.length = 0 then ([], 0) else if (betterA m vals).2 = 0 then ([(betterA m vals).1], 0) else ([], (betterA m vals).2)
theorem llarg_one (w : World) (x : Value) (cl : Cla) (B : Nat) (hB : B = w.heap.size) (h : LArg w x cl) : LLArg (w.alloc (.cells #[x] 38)) (.slice (some ⟨B, 0, none⟩) 1 1) [cl] := by
  subst hB
  refine ⟨_, 1, rfl, ⟨Nat.le_refl _, by unfold maxLen; omega⟩, fun i c hc => ?_⟩
  match i, hc with
  | 0, hc =>
    cases hc
    exact ⟨_, 0, x, rfl, by simp, World.cell?_alloc_at _ _ _ 0 (by simp), LArg.below (below_alloc _ _) h⟩
theorem llarg_nil (w : World) : LLArg w (.slice none 0 0) [] := ⟨none, 0, rfl, ⟨Nat.le_refl _, Nat.zero_le _⟩, fun i z hz => by simp at hz⟩

set_option maxHeartbeats 1600000 in
set_option maxRecDepth 100000 in
theorem given_any (m : Mod) (vals : List Int) (vs cs v : Value) (w : World) (hma : MArg w vs cs m) (hv : IArg w v vals) :
    Calls Tryz.prog 66 #[modV vs cs m, v] w fun e w' => ∃ x, e = .returned (.tuple #[x, .int .i64 (givenA m vals).2]) ∧ LLArg w' x (givenA m vals).1 ∧ Below w.heap.size w w' := by
  have HMA : Hid (∀ w', Below w.heap.size w w' → MArg w' vs cs m) := fun w' h => MArg.below h hma
  have HV : Hid (∀ w', Below w.heap.size w w' → IArg w' v vals) := fun w' h => IArg.below h hv
  obtain ⟨⟨a1, c1, rfl, _, _⟩, ⟨a2, c2, rfl, _, _⟩⟩ := hma
  obtain ⟨av, cv, rfl, _, _⟩ := hv
  obtain ⟨R, hR⟩ : ∃ R, givenA m vals = R := ⟨_, rfl⟩
  rw [hR]
  unfold givenA at hR
  unfold modV
  by_cases h0 : vals.length = 0
  · rw [if_pos h0] at hR
    have HN : Hid ((([] : List Cla), (0 : Int)) = R) := hR
    have hv0 : vals = [] := List.length_eq_zero_iff.1 h0
    subst hv0
    clear hR h0
    go_enter Tryz.func66, Tryz.ntmps66
    go_wp2
    go_ret2
    rw [← HN.out]
    exact ⟨_, rfl, llarg_nil _, below_alloc _ _⟩
  · rw [if_neg h0] at hR
    have hv1 : ¬ (vals.length : Int) = 0 := by omega
    have hv2 : ¬ vals = [] := fun h => by rw [h] at h0; exact h0 rfl
    have hv3 : ((vals.length : Int) == 0) = false := by simpa using hv2
    have HR := (show Hid _ from hR)
    obtain ⟨⟨BC, BE⟩, hB⟩ : ∃ B, betterA m vals = B := ⟨_, rfl⟩
    have HB : Hid (betterA m vals = (BC, BE)) := hB
    rw [hB] at HR
    clear hR h0 hB
    go_enter Tryz.func66, Tryz.ntmps66
    go_wp2_with fail
    have hbY : Below w.heap.size w (w.alloc (.cells #[.slice a1 m.vars.length c1, .slice a2 m.cons.length c2, .int .i64 m.goal, .int .i64 m.var] 25)) := below_alloc _ _
    refine (bbetter_any m vals (.slice a1 m.vars.length c1) (.slice a2 m.cons.length c2) _ _ (HMA.out _ hbY) (HV.out _ hbY)).mono ?_
    rintro e w1 ⟨x, rfl, hx, hb1⟩
    rw [HB.out] at hx ⊢
    dsimp only at hx ⊢
    have HBL : Hid (Below w.heap.size w w1) := hbY.trans (hb1.mono (by simp))
    have HX : Hid (LArg w1 x BC) := hx.arg
    obtain ⟨ax, cx, rfl⟩ := own_form (show w1.ownsRow _ _ _ _ _ _ from hx)
    clear hx hb1 hbY
    by_cases he : BE = 0
    · have hR := HR.out
      rw [if_pos he] at hR
      have HN : Hid (([BC], (0 : Int)) = R) := hR
      subst he
      clear hR HR
      go_wp2
      go_ret2
      rw [← HN.out]
      exact ⟨_, rfl, llarg_one w1 _ BC _ rfl HX.out, HBL.out.alloc HBL.out.size _⟩
    · have hR := HR.out
      rw [if_neg he] at hR
      have HN : Hid ((([] : List Cla), BE) = R) := hR
      have he' : (BE != 0) = true := by simpa using he
      clear hR HR he
      go_wp2
      go_ret2
      rw [← HN.out]
      exact ⟨_, rfl, llarg_nil _, HBL.out⟩

def verifyA (s : ByteArray) (vals : List Int) (l : List MStep) : Bool × Int := if (parseA s).2.2 = 0 then verifyM (parseA s).1 vals l else (false, (parseA s).2.2)
theorem verifyM_given (m : Mod) (vals : List Int) (l : List MStep) : verifyM m vals l = if (givenA m vals).2 = 0 then (if (pcheckA m (givenA m vals).1 l).1 = true ∧ vals.length ≠ 0 then allA m vals else pcheckA m (givenA m vals).1 l) else (false, (givenA m vals).2) := by
  unfold verifyM givenA
  by_cases h0 : vals.length = 0
  · rw [if_pos h0, if_pos h0, if_pos rfl, if_neg (fun h => h.2 h0)]
  · rw [if_neg h0, if_neg h0]
    by_cases hb : (betterA m vals).2 = 0
    · rw [if_pos hb, if_pos hb, if_pos rfl]
      simp only
      cases hp : (pcheckA m [(betterA m vals).1] l).1
      · rw [if_neg (by decide), if_neg (fun h => by cases h.1)]
      · rw [if_pos rfl, if_pos ⟨rfl, h0⟩]
    · rw [if_neg hb, if_neg hb, if_neg hb]

set_option maxHeartbeats 1600000 in
set_option maxRecDepth 100000 in
theorem verify_any (s : ByteArray) (hs : s.size ≤ maxLen) (vals : List Int) (l : List MStep) (v u : Value) (w : World) (hv : IArg w v vals) (hu : StArg w u l) (hT : TabT w) :
    Calls Tryz.prog 25 #[.string s, v, u] w fun e w' => e = .returned (.tuple #[.bool (verifyA s vals l).1, .int .i64 (verifyA s vals l).2]) ∧ Below w.heap.size w w' := by
  have HV : Hid (∀ w', Below w.heap.size w w' → IArg w' v vals) := fun w' h => IArg.below h hv
  have HU : Hid (∀ w', Below w.heap.size w w' → StArg w' u l) := fun w' h => StArg.below h hu
  have HT : Hid (∀ w', Below w.heap.size w w' → TabT w') := fun w' h => hT.below h
  have HS : Hid (s.size ≤ maxLen) := hs
  obtain ⟨av, cv, rfl, _, _⟩ := hv
  obtain ⟨au, cu, rfl, _, _⟩ := hu
  obtain ⟨R, hR⟩ : ∃ R, verifyA s vals l = R := ⟨_, rfl⟩
  rw [hR]
  unfold verifyA at hR
  obtain ⟨⟨m, at0, er⟩, hp⟩ : ∃ P, parseA s = P := ⟨_, rfl⟩
  have HP : Hid (parseA s = (m, at0, er)) := hp
  rw [hp] at hR
  have HR : Hid ((if er = 0 then verifyM m vals l else (false, er)) = R) := hR
  clear hR hp hT hs
  go_enter Tryz.func25, Tryz.ntmps25
  go_wp2_with fail
  refine (parse_any s HS.out _).mono ?_
  rintro e w1 ⟨vs, cs, rfl, hm1, hb1⟩
  rw [HP.out] at hm1 ⊢
  dsimp only at hm1 ⊢
  have HMA : Hid (∀ w', Below w1.heap.size w1 w' → MArg w' vs cs m) := fun w' h => MArg.below h hm1.marg
  have HB1 : Hid (Below w.heap.size w w1) := hb1
  obtain ⟨⟨a1, c1, rfl, _, _⟩, ⟨a2, c2, rfl, _, _⟩⟩ := hm1.marg
  unfold modV
  clear hm1 hb1
  by_cases he : er = 0
  · have hR := HR.out
    rw [if_pos he, verifyM_given] at hR
    subst he
    have HR2 := (show Hid _ from hR)
    clear hR HR
    obtain ⟨⟨GL, GE⟩, hG⟩ : ∃ G, givenA m vals = G := ⟨_, rfl⟩
    have HG : Hid (givenA m vals = (GL, GE)) := hG
    rw [hG] at HR2
    clear hG
    go_wp2_with fail
    have hbY : Below w1.heap.size w1 (w1.alloc (.cells #[.slice a1 m.vars.length c1, .slice a2 m.cons.length c2, .int .i64 m.goal, .int .i64 m.var] 25)) := below_alloc _ _
    have hblY := heap_alloc_new w1 (.cells #[.slice a1 m.vars.length c1, .slice a2 m.cons.length c2, .int .i64 m.goal, .int .i64 m.var] 25)
    refine (given_any m vals (.slice a1 m.vars.length c1) (.slice a2 m.cons.length c2) _ _ (HMA.out _ hbY) (HV.out _ (HB1.out.trans (hbY.mono HB1.out.size)))).mono ?_
    rintro e w2 ⟨x, rfl, hx, hb2⟩
    rw [HG.out] at hx ⊢
    dsimp only at hx ⊢
    have HQ2 : Hid (w2.heap[w1.heap.size]? = some (.cells #[.slice a1 m.vars.length c1, .slice a2 m.cons.length c2, .int .i64 m.goal, .int .i64 m.var] 25)) := (hb2.block _ (by simp)).trans hblY
    have HB12 : Hid (Below w1.heap.size w1 w2) := hbY.trans (hb2.mono (by simp))
    have HB2 : Hid (Below w.heap.size w w2) := HB1.out.trans (HB12.out.mono HB1.out.size)
    have HX : Hid (LLArg w2 x GL) := hx
    obtain ⟨ax, cx, rfl, _, _⟩ := hx
    clear hb2 hbY hblY
    have k0 := blk9 HQ2.out 0 _ rfl
    have k1 := blk9 HQ2.out 1 _ rfl
    have k2 := blk9 HQ2.out 2 _ rfl
    have k3 := blk9 HQ2.out 3 _ rfl
    have kl := (Array.getElem?_eq_some_iff.1 HQ2.out).1
    by_cases hge : GE = 0
    · have hR := HR2.out
      rw [if_pos hge] at hR
      subst hge
      have HR3 := (show Hid _ from hR)
      clear hR HR2
      obtain ⟨⟨PB, PE⟩, hPC⟩ : ∃ P, pcheckA m GL l = P := ⟨_, rfl⟩
      have HPC : Hid (pcheckA m GL l = (PB, PE)) := hPC
      rw [hPC] at HR3
      clear hPC
      go_wp2_with fail
      refine (pcheck_any m GL l (.slice a1 m.vars.length c1) (.slice a2 m.cons.length c2) _ _ w2 (HMA.out _ HB12.out) HX.out (HU.out _ HB2.out) (HT.out _ HB2.out)).mono ?_
      rintro e w3 ⟨rfl, hb3⟩
      rw [HPC.out]
      dsimp only
      have HQ3 : Hid (w3.heap[w1.heap.size]? = some (.cells #[.slice a1 m.vars.length c1, .slice a2 m.cons.length c2, .int .i64 m.goal, .int .i64 m.var] 25)) := (hb3.block _ kl).trans HQ2.out
      have HB13 : Hid (Below w1.heap.size w1 w3) := HB12.out.trans (hb3.mono HB12.out.size)
      have HB3 : Hid (Below w.heap.size w w3) := HB1.out.trans (HB13.out.mono HB1.out.size)
      clear hb3 k0 k1 k2 k3 kl
      have k0 := blk9 HQ3.out 0 _ rfl
      have k1 := blk9 HQ3.out 1 _ rfl
      have k2 := blk9 HQ3.out 2 _ rfl
      have k3 := blk9 HQ3.out 3 _ rfl
      have kl := (Array.getElem?_eq_some_iff.1 HQ3.out).1
      cases PB
      · have hR := HR3.out
        rw [if_neg (fun h => by cases h.1)] at hR
        have HN : Hid ((false, PE) = R) := hR
        clear hR HR3
        go_wp2
        go_ret2
        rw [← HN.out]
        exact ⟨rfl, HB3.out⟩
      · by_cases h0 : vals.length = 0
        · have hR := HR3.out
          rw [if_neg (fun h => h.2 h0)] at hR
          have HN : Hid ((true, PE) = R) := hR
          have hv0 : vals = [] := List.length_eq_zero_iff.1 h0
          subst hv0
          clear hR HR3 h0
          go_wp2
          go_ret2
          rw [← HN.out]
          exact ⟨rfl, HB3.out⟩
        · have hR := HR3.out
          rw [if_pos ⟨rfl, h0⟩] at hR
          have HN : Hid (allA m vals = R) := hR
          have hv1 : ¬ (vals.length : Int) = 0 := by omega
          have hv2 : ¬ vals = [] := fun h => by rw [h] at h0; exact h0 rfl
          have hv3 : ((vals.length : Int) == 0) = false := by simpa using hv2
          clear hR HR3 h0
          go_wp2_with fail
          refine (mall_any m vals (.slice a1 m.vars.length c1) (.slice a2 m.cons.length c2) _ w3 (HMA.out _ HB13.out) (HV.out _ HB3.out)).mono ?_
          rintro e w4 ⟨rfl, hb4⟩
          rw [HN.out]
          have HB4 : Hid (Below w.heap.size w w4) := HB3.out.trans (hb4.mono HB3.out.size)
          clear hb4
          go_wp2
          go_ret2
          exact ⟨rfl, HB4.out⟩
    · have hR := HR2.out
      rw [if_neg hge] at hR
      have HN : Hid ((false, GE) = R) := hR
      have he' : (GE != 0) = true := by simpa using hge
      clear hR HR2 hge
      go_wp2
      go_ret2
      rw [← HN.out]
      exact ⟨rfl, HB2.out⟩
  · have hR := HR.out
    rw [if_neg he] at hR
    have HN : Hid ((false, er) = R) := hR
    have he' : (er != 0) = true := by simpa using he
    clear hR HR he
    go_wp2
    go_ret2
    rw [← HN.out]
    exact ⟨rfl, HB1.out.alloc HB1.out.size _⟩
end Go.Proofs.YtdjbejlbmaiocagGreatDoor
/-
  The library's strings.Builder at a program that reads and prints texts too: String, copyCheck, WriteString.
-/
namespace Go.Proofs.YtdjbejlbmaiocagGreatDoor
open Go.RowKit

theorem bld_string (B b : Nat) (l : List UInt8) (w : World) (h : Lib.IsBuilderF 150 5 B b (Lib.byteCells l) w) (hBw : B ≤ w.heap.size) :
    Calls Tryz.prog 112 #[.pointer (some ⟨b, 0, none⟩)] w fun e w' => e = .returned (.string ⟨l.toArray⟩) ∧ (Lib.IsBuilderF 150 5 B b (Lib.byteCells l) w' ∧ Below B w w' ∧ Lib.OthersKept 5 (some b) w w') :=
  Any.Builder_String_any_k Tryz.lays169 Tryz.Builder_Extra_169 B b l w h hBw

set_option maxHeartbeats 1000000 in
set_option maxRecDepth 100000 in
theorem bld_check_used (b : Nat) (w : World) (h0 : w.cell? ⟨b, 0, none⟩ = some (.pointer (some ⟨b, 0, none⟩))) :
    Calls Tryz.prog 162 #[.pointer (some ⟨b, 0, none⟩)] w fun e w' => e = .returned (.tuple #[]) ∧ w' = w := by
  obtain ⟨j, hj, _⟩ := Option.map_eq_some_iff.1 Tryz.Builder_Extra_169.sizeBuilder
  go_enter Tryz.func162, Tryz.ntmps162
  go_wp2
  rw [Lib.run_neq_ptr_same w _ Tryz.underlying148 hj]
  go_wp2
  go_end0
  exact ⟨rfl, rfl⟩

set_option maxHeartbeats 1000000 in
set_option maxRecDepth 100000 in
theorem bld_check_fresh (b : Nat) (w : World) (h0 : w.cell? ⟨b, 0, none⟩ = some (.pointer none)) (hsh : w.shape? b = some (150, 2)) (hfz : w.frozen? ⟨b, 0, none⟩ = false) :
    Calls Tryz.prog 162 #[.pointer (some ⟨b, 0, none⟩)] w fun e w' => e = .returned (.tuple #[]) ∧ w' = w.setCell ⟨b, 0, none⟩ (.pointer (some ⟨b, 0, none⟩)) := by
  obtain ⟨j, hj, hjs⟩ := Option.map_eq_some_iff.1 Tryz.Builder_Extra_169.sizeBuilder
  go_enter Tryz.func162, Tryz.ntmps162
  go_wp2
  rw [Lib.run_to_unsafe w ⟨b, 0, none⟩ Tryz.underlying148 Tryz.underlying269 hj (by rw [hjs]; decide) hsh (Nat.zero_lt_succ 1)]
  simp only [Result.andThen]
  rw [Oper.upon_value]
  go_wp2
  rw [run_callFunc_extern Tryz.func228 (by kernel_rfl) (by kernel_rfl) (by kernel_rfl) (e := Extern.AbiNoEscape.same) (by kernel_rfl)]
  rw [Lib.run_noEscape]
  simp only [Result.andThen]
  rw [Oper.upon_value]
  go_wp2
  rw [Lib.run_from_unsafe w ⟨b, 0, none⟩ Tryz.underlying269 Tryz.underlying148 hj hsh Tryz.Builder_Extra_169.liesBuilder]
  simp only [Result.andThen]
  rw [Oper.upon_value]
  go_wp2
  go_end0
  exact ⟨rfl, rfl⟩

theorem bld_check (B b : Nat) (bs : List Value) (w : World) (h : Lib.IsBuilderF 150 5 B b bs w) :
    Calls Tryz.prog 162 #[.pointer (some ⟨b, 0, none⟩)] w fun e w' => e = .returned (.tuple #[]) ∧ (Lib.BuilderAtF 150 5 B b (.pointer (some ⟨b, 0, none⟩)) bs w' ∧ Below B w w' ∧ Lib.OthersKept 5 (some b) w w') := by
  rcases h with h | h
  · refine (bld_check_fresh b w h.cell0 h.shape h.frozen0).mono ?_
    rintro e w' ⟨rfl, rfl⟩
    exact ⟨rfl, h.used _, (Below.refl B w).setCell (p := ⟨b, 0, none⟩) h.1 _, (Lib.OthersKept.refl _ _ w).setCell ⟨b, 0, none⟩ rfl _⟩
  · refine (bld_check_used b w h.cell0).mono ?_
    rintro e w' ⟨rfl, rfl⟩
    exact ⟨rfl, h, Below.refl B _, Lib.OthersKept.refl _ _ _⟩

set_option maxHeartbeats 2000000 in
set_option maxRecDepth 100000 in
theorem bld_str (B b : Nat) (bs : List Value) (s : ByteArray) (w : World) (h : Lib.IsBuilderF 150 5 B b bs w) (hlen : bs.length + s.size ≤ 140737488355328) (hBw : B ≤ w.heap.size) :
    Calls Tryz.prog 110 #[.pointer (some ⟨b, 0, none⟩), .string s] w fun e w' => e = .returned (.tuple #[.int .i64 s.size, .nilIface]) ∧ (Lib.BuilderAtF 150 5 B b (.pointer (some ⟨b, 0, none⟩)) (bs ++ Lib.strCells s) w' ∧ Below B w w' ∧ Lib.OthersKept 5 (some b) w w') := by
  obtain ⟨i0, hi, hz0, hz1, hz2⟩ := info_parts Tryz.Builder_Extra_169.infoByte
  go_enter Tryz.func110, Tryz.ntmps110
  go_wp2_with fail
  refine (bld_check B b bs _ h).mono ?_
  rintro e w1 ⟨rfl, h1, hb1, hk1⟩
  obtain ⟨hB, v, hbk, hown, hne⟩ := h1
  have c0 : w1.cell? ⟨b, 0, none⟩ = some (.pointer (some ⟨b, 0, none⟩)) := by rw [Lib.cell_of_heap hbk]; rfl
  have c1 : w1.cell? ⟨b, 1, none⟩ = some v := by rw [Lib.cell_of_heap hbk]; rfl
  go_wp2_with (at_builtin; refine Lib.wpList_append_own_stringF _ rfl _ _ 107 9 rfl B 5 i0 Tryz.underlying107 Tryz.underlying9 hi hz0 hz1 hz2 _ _ _ rfl hown s rfl ?c3 ?c4 ?c5 ?_)
  case c3 => unfold maxLen; omega
  case c4 => omega
  case c5 => have := hb1.size; omega
  intro v' w2 hown' hgrow _
  have hlt : b < w1.heap.size := by
    rcases Nat.lt_or_ge b w1.heap.size with h' | h'
    · exact h'
    · simp [Array.getElem?_eq_none h'] at hbk
  have hb2 : w2.heap[b]? = some (.cells #[.pointer (some ⟨b, 0, none⟩), v] 150 (0, 0)) := by
    rw [hgrow.block b hlt (fun e => hne e.symm)]
    exact hbk
  have d0 : w2.cell? ⟨b, 0, none⟩ = some (.pointer (some ⟨b, 0, none⟩)) := by rw [Lib.cell_of_heap hb2]; rfl
  have d1 : w2.cell? ⟨b, 1, none⟩ = some v := by rw [Lib.cell_of_heap hb2]; rfl
  have f1 : w2.frozen? ⟨b, 1, none⟩ = false := Lib.frozen_of_heap hb2 1
  obtain ⟨ao, n', cap, rfl⟩ : ∃ ao n' cap, v' = .slice ao n' cap := by
    rcases hown'.2 with ⟨hv, _⟩ | ⟨g, cap, cur, fz, hv, _⟩
    · exact ⟨_, _, _, hv⟩
    · exact ⟨_, _, _, hv⟩
  go_wp2
  go_ret2
  refine ⟨rfl, ?_, ?_, (hk1.grown hgrow (Lib.ownsRowF_kind hown)).setCell ⟨b, 1, none⟩ rfl _⟩
  · exact Lib.BuilderAtF.put (T := 150) (e := 5) hB hb2 (bs' := bs ++ Lib.strCells s) (by simpa [Lib.strCells_length] using hown') Tryz.Builder_Extra_169.neB5
  · exact (hb1.grown hgrow (by have := hb1.size; omega) (fun k hk => (hown.lt k hk).1)).setCell (p := ⟨b, 1, none⟩) hB _
end Go.Proofs.YtdjbejlbmaiocagGreatDoor
/-
  PLAIN: what is told of an answer. WALKS: package report: found, tell.
-/
namespace Go.Proofs.YtdjbejlbmaiocagGreatDoor
open Go.RowKit

def foundB (goal : Int) : ByteArray := if goal = 0 then ⟨#[102, 111, 117, 110, 100, 10]⟩ else ⟨#[98, 101, 115, 116, 10]⟩
def itoaB (n : Int) : ByteArray := ⟨(Lib.itoa n).toArray⟩
def vnameAt (vs : List MVar) (k : Nat) : ByteArray := (vs.getD k noVar).name
def lineOf (vs : List MVar) (k : Nat) (x : Int) : ByteArray := vnameAt vs k ++ ⟨#[32, 61, 32]⟩ ++ itoaB x ++ ⟨#[10]⟩
def linesOf (vs : List MVar) (xs : List Int) : List UInt8 := ((List.range xs.length).map fun k => (lineOf vs k (xs.getD k 0)).data.toList).flatten
def tellB (m : Mod) (a : Ans) : ByteArray :=
  if a.verdict = 2 then ⟨#[110, 111, 110, 101, 10]⟩ else if a.verdict = 3 then ⟨#[117, 110, 107, 110, 111, 119, 110, 10]⟩ else ⟨((foundB m.goal).data.toList ++ linesOf m.vars a.values).toArray⟩
theorem lines_snoc (vs : List MVar) (xs : List Int) (k : Nat) (x : Int) (h : xs[k]? = some x) : linesOf vs (xs.take (k + 1)) = linesOf vs (xs.take k) ++ (lineOf vs k x).data.toList := by
  have hk := (List.getElem?_eq_some_iff.1 h).1
  unfold linesOf
  have l1 : (xs.take (k + 1)).length = k + 1 := by rw [List.length_take]; omega
  have l2 : (xs.take k).length = k := by rw [List.length_take]; omega
  rw [l1, l2, List.range_succ, List.map_append, List.flatten_append]
  congr 1
  · congr 1
    apply List.map_congr_left
    intro j hj
    have hj := List.mem_range.1 hj
    congr 2
    rw [List.getD_eq_getElem?_getD, List.getD_eq_getElem?_getD, List.getElem?_take, List.getElem?_take, if_pos (by omega), if_pos (by omega)]
  · simp only [List.map_cons, List.map_nil, List.flatten_cons, List.flatten_nil, List.append_nil]
    congr 2
    rw [List.getD_eq_getElem?_getD, List.getElem?_take, if_pos (by omega), h]; rfl

set_option maxHeartbeats 800000 in
theorem found_any (goal : Int) (w : World) : Calls Tryz.prog 111 #[.int .i64 goal] w fun e w' => e = .returned (.string (foundB goal)) ∧ w' = w := by
  unfold foundB
  by_cases hg : goal = 0
  · subst hg
    go_enter Tryz.func111, Tryz.ntmps111
    go_wp2
    go_ret
    exact ⟨rfl, rfl⟩
  · rw [if_neg hg]
    have hg' : (goal == 0) = false := by simpa using hg
    go_enter Tryz.func111, Tryz.ntmps111
    go_wp2
    go_ret
    exact ⟨rfl, rfl⟩
def TabP (w : World) : Prop := Lib.TabIs Tryz.prog w "internal/strconv.uint64pow10" .u64 Lib.pow10Tab
theorem itoa_any (n : Int) (hn : -1000000 ≤ n ∧ n ≤ 1000000) (w : World) (hP : TabP w) : Calls Tryz.prog 55 #[.int .i64 n] w fun e w' => e = .returned (.string (itoaB n)) ∧ Below w.heap.size w w' :=
  (Tryz.strconv_Itoa n (by omega) (by omega) w hP).mono (by
    rintro e w1 ⟨rfl, k, os, hw⟩
    exact ⟨rfl, by rw [hw]; exact Lib.below_grow w.heap.size w (Nat.le_refl _) k os⟩)
theorem bld_made (w : World) : Lib.IsBuilderF 150 5 w.heap.size w.heap.size (Lib.byteCells []) (w.alloc (.cells #[.pointer none, .slice none 0 0] 150)) :=
  Or.inl ⟨Nat.le_refl _, .slice none 0 0, by show (w.heap.push _)[w.heap.size]? = _; simp, World.ownsRowF_of (World.ownsRow_nil _ _ _ _), by simp [Value.ownBlock]⟩
theorem TabP.below {w w' : World} (h : TabP w) (hb : Below w.heap.size w w') : TabP w' := by
  unfold TabP at h ⊢
  unfold Lib.TabIs World.var? at h ⊢
  cases hg : Tryz.prog.globalNamed "internal/strconv.uint64pow10" with
  | none => rw [hg] at h; exact h
  | some g =>
    rw [hg] at h
    have hlt : g < w.heap.size := by
      rcases Nat.lt_or_ge g w.heap.size with h' | h'
      · exact h'
      · simp [Array.getElem?_eq_none h'] at h
    have hb2 := hb.block g hlt
    simp only [Option.bind_some] at h ⊢
    rw [hb2]; exact h
theorem bld_below {B b : Nat} {bs : List Value} {w w' : World} (h : Lib.IsBuilderF 150 5 B b bs w) (hb : Below w.heap.size w w') : Lib.IsBuilderF 150 5 B b bs w' := by
  have one : ∀ p, Lib.BuilderAtF 150 5 B b p bs w → Lib.BuilderAtF 150 5 B b p bs w' := by
    rintro p ⟨h1, v, h2, h3, h4⟩
    refine ⟨h1, v, (hb.block b (Array.getElem?_eq_some_iff.1 h2).1).trans h2, ?_, h4⟩
    refine ⟨h3.1, ?_⟩
    rcases h3.2 with hn | ⟨g, cap, cur, z, hv, hg, hh, r⟩
    · exact .inl hn
    · exact .inr ⟨g, cap, cur, z, hv, hg, (hb.block g (Array.getElem?_eq_some_iff.1 hh).1).trans hh, r⟩
  rcases h with h | h
  · exact Or.inl (one _ h)
  · exact Or.inr (one _ h)
theorem bytes_cat (a b : List UInt8) : Lib.byteCells (a ++ b) = Lib.byteCells a ++ Lib.byteCells b := by unfold Lib.byteCells; rw [List.map_append]
theorem bytes_len (l : List UInt8) : (Lib.byteCells l).length = l.length := by unfold Lib.byteCells; rw [List.length_map]

theorem lines_len (vs : List MVar) (xs : List Int) (hn : ∀ x ∈ vs, x.name.size ≤ 1000) (hi : ∀ x ∈ xs, (itoaB x).size ≤ 100) : ∀ (k : Nat), k ≤ xs.length → (linesOf vs (xs.take k)).length ≤ 2000 * k
  | 0, _ => by simp [linesOf]
  | k + 1, hk => by
    have hx : xs[k]? = some (xs[k]'(by omega)) := by rw [List.getElem?_eq_getElem (by omega)]
    rw [lines_snoc vs xs k _ hx, List.length_append]
    have h1 := lines_len vs xs hn hi k (by omega)
    have h2 : (lineOf vs k (xs[k]'(by omega))).data.toList.length = (lineOf vs k (xs[k]'(by omega))).size := rfl
    have h3 : (lineOf vs k (xs[k]'(by omega))).size ≤ 1200 := by
      unfold lineOf
      rw [ByteArray.size_append, ByteArray.size_append, ByteArray.size_append]
      have h4 := hi _ (List.mem_of_getElem? hx)
      have h5 : (vnameAt vs k).size ≤ 1000 := by
        unfold vnameAt
        by_cases hkv : k < vs.length
        · rw [List.getD_eq_getElem?_getD, List.getElem?_eq_getElem hkv]
          exact hn _ (List.getElem_mem _)
        · rw [List.getD_eq_getElem?_getD, List.getElem?_eq_none (by omega)]
          decide
      have h6 : (⟨#[32, 61, 32]⟩ : ByteArray).size = 3 := rfl
      have h7 : (⟨#[10]⟩ : ByteArray).size = 1 := rfl
      omega
    omega
set_option maxHeartbeats 3200000 in
set_option maxRecDepth 100000 in
theorem tell_any (m : Mod) (a : Ans) (hn : ∀ x ∈ m.vars, x.name.size ≤ 1000) (hl : a.values.length ≤ m.vars.length) (hl6 : m.vars.length ≤ 6) (hx : ∀ x ∈ a.values, -1000 ≤ x ∧ x ≤ 1000) (hi : ∀ x ∈ a.values, (itoaB x).size ≤ 100) (vs cs vv : Value) (ap : Option Addr) (np cp : Nat) (w : World) (hma : MArg w vs cs m) (hv : IArg w vv a.values) (hP : TabP w) :
    Calls Tryz.prog 56 #[modV vs cs m, .agg #[.int .i64 a.verdict, vv, .slice ap np cp]] w fun e w' => e = .returned (.string (tellB m a)) ∧ Below w.heap.size w w' := by
  have HMA : Hid (∀ w', Below w.heap.size w w' → MArg w' vs cs m) := fun w' h => MArg.below h hma
  have HP : Hid (∀ w', Below w.heap.size w w' → TabP w') := fun w' h => hP.below h
  obtain ⟨⟨a1, c1, rfl, _, hvr⟩, ⟨a2, c2, rfl, _, _⟩⟩ := hma
  obtain ⟨av, cv, rfl, _, hir⟩ := hv
  have HV : Hid (∀ (i : Nat) (t : MVar), m.vars[i]? = some t → t.name.size ≤ maxLen ∧ ∃ b off, a1 = some ⟨b, off, none⟩ ∧ b < w.heap.size ∧
    w.cell? ⟨b, off + i * 3, none⟩ = some (.string t.name) ∧ w.cell? ⟨b, off + i * 3 + 1, none⟩ = some (.int .i64 t.lo) ∧ w.cell? ⟨b, off + i * 3 + 2, none⟩ = some (.int .i64 t.hi)) := hvr
  have HI : Hid (∀ (i : Nat) (z : Int), a.values[i]? = some z → ∃ b off, av = some ⟨b, off, none⟩ ∧ b < w.heap.size ∧ w.cell? ⟨b, off + i, none⟩ = some (.int .i64 z)) := hir
  obtain ⟨R, hR⟩ : ∃ R, tellB m a = R := ⟨_, rfl⟩
  rw [hR]
  unfold tellB at hR
  have HR := (show Hid _ from hR)
  have HN : Hid (∀ x ∈ m.vars, x.name.size ≤ 1000) := hn
  have HXB : Hid (∀ x ∈ a.values, -1000 ≤ x ∧ x ≤ 1000) := hx
  have HIB : Hid (∀ x ∈ a.values, (itoaB x).size ≤ 100) := hi
  clear hR hvr hir hn hx hi hP
  unfold modV
  go_enter Tryz.func56, Tryz.ntmps56
  by_cases h2 : a.verdict = 2
  · have hR := HR.out
    rw [if_pos h2] at hR
    subst hR
    rw [h2]
    clear HR h2
    go_wp2
    go_ret
    exact ⟨rfl, (below_alloc _ _).alloc (by simp) _⟩
  · by_cases h3 : a.verdict = 3
    · have hR := HR.out
      rw [if_neg h2, if_pos h3] at hR
      subst hR
      rw [h3]
      clear HR h2 h3
      go_wp2
      go_ret
      exact ⟨rfl, (below_alloc _ _).alloc (by simp) _⟩
    · have hR := HR.out
      rw [if_neg h2, if_neg h3] at hR
      have HR2 := (show Hid _ from hR)
      have h2' : (a.verdict == 2) = false := by simpa using h2
      have h3' : (a.verdict == 3) = false := by simpa using h3
      clear hR HR h2 h3
      go_wp2_with fail
      refine (found_any m.goal _).mono ?_
      rintro e wf ⟨rfl, hwf⟩
      obtain ⟨q1, q2⟩ := two_blocks w (.cells #[.slice a1 m.vars.length c1, .slice a2 m.cons.length c2, .int .i64 m.goal, .int .i64 m.var] 25) (.cells #[.int .i64 a.verdict, .slice av a.values.length cv, .slice ap np cp] 29)
      have hbW : Below w.heap.size w ((w.alloc (.cells #[.slice a1 m.vars.length c1, .slice a2 m.cons.length c2, .int .i64 m.goal, .int .i64 m.var] 25)).alloc (.cells #[.int .i64 a.verdict, .slice av a.values.length cv, .slice ap np cp] 29)) := (below_alloc _ _).alloc (by simp) _
      have hszW : ((w.alloc (.cells #[.slice a1 m.vars.length c1, .slice a2 m.cons.length c2, .int .i64 m.goal, .int .i64 m.var] 25)).alloc (.cells #[.int .i64 a.verdict, .slice av a.values.length cv, .slice ap np cp] 29)).heap.size = w.heap.size + 1 + 1 := by simp
      obtain ⟨W, hW⟩ : ∃ W, ((w.alloc (.cells #[.slice a1 m.vars.length c1, .slice a2 m.cons.length c2, .int .i64 m.goal, .int .i64 m.var] 25)).alloc (.cells #[.int .i64 a.verdict, .slice av a.values.length cv, .slice ap np cp] 29)) = W := ⟨_, rfl⟩
      rw [hW] at q1 q2 hbW hszW hwf
      have hbm := bld_made W
      rw [hszW, ← hwf] at hbm
      have hbf : Below W.heap.size W wf := by rw [hwf]; exact below_alloc _ _
      obtain ⟨B, hB⟩ : ∃ B, w.heap.size + 1 + 1 = B := ⟨_, rfl⟩
      rw [hB] at hbm hszW ⊢
      rw [hszW] at hbf
      have HQ1 : Hid (∀ Y, Below B W Y → Y.heap[w.heap.size]? = some (.cells #[.slice a1 m.vars.length c1, .slice a2 m.cons.length c2, .int .i64 m.goal, .int .i64 m.var] 25)) := fun Y hY => (hY.block _ (by omega)).trans q1
      have HQ2 : Hid (∀ Y, Below B W Y → Y.heap[w.heap.size + 1]? = some (.cells #[.int .i64 a.verdict, .slice av a.values.length cv, .slice ap np cp] 29)) := fun Y hY => (hY.block _ (by omega)).trans q2
      have HWO : Hid (∀ Y, Below B W Y → Below w.heap.size w Y) := fun Y hY => hbW.trans (hY.mono (by omega))
      have HBW : Hid (Below B W wf) := hbf
      have HBD : Hid (Lib.IsBuilderF 150 5 B B (Lib.byteCells []) wf) := hbm
      have HBB : Hid (B ≤ W.heap.size) := by show _ ≤ _; omega
      have HFS : Hid ((foundB m.goal).size ≤ 10) := by show _ ≤ _; unfold foundB; split <;> decide
      clear hbm hbf hbW hszW hW q1 q2 hwf hB
      go_wp2_with fail
      refine (bld_str B B (Lib.byteCells []) (foundB m.goal) wf HBD.out (by rw [bytes_len]; have := HFS.out; simp; omega) (by have := HBW.out.size; have := HBB.out; omega)).mono ?_
      rintro e w1 ⟨rfl, hd1, hb1, _⟩
      have HD1 : Hid (Lib.IsBuilderF 150 5 B B (Lib.byteCells ((foundB m.goal).data.toList ++ linesOf m.vars (a.values.take 0))) w1) := by
        have : linesOf m.vars (a.values.take 0) = [] := rfl
        rw [this, List.append_nil]
        exact Or.inr hd1
      have HB1 : Hid (Below B W w1) := HBW.out.trans hb1
      clear hd1 hb1 HBD HBW
      have k1 := blk9 (HQ2.out _ HB1.out) 1 _ rfl
      have kl := (Array.getElem?_eq_some_iff.1 (HQ2.out _ HB1.out)).1
      go_wp2_with fail
      clear k1 kl
      go_loopw [21] (fun i wr => ∃ k : Nat, k ≤ a.values.length ∧ i = .int .i64 k ∧ Lib.IsBuilderF 150 5 B B (Lib.byteCells ((foundB m.goal).data.toList ++ linesOf m.vars (a.values.take k))) wr ∧ Below B W wr) (fun i _ => a.values.length - (intOf i).toNat)
      case atStart => exact ⟨0, by omega, rfl, HD1.out, HB1.out⟩
      case round =>
        obtain ⟨k, hk, rfl, hd, hb⟩ := hrel
        have HD : Hid (Lib.IsBuilderF 150 5 B B (Lib.byteCells ((foundB m.goal).data.toList ++ linesOf m.vars (a.values.take k))) wr) := hd
        have HB : Hid (Below B W wr) := hb
        have HSZ : Hid (B ≤ wr.heap.size) := by have := hb.size; have := HBB.out; show _ ≤ _; omega
        clear hd hb HD1 HB1
        by_cases hlt : k < a.values.length
        · obtain ⟨x, hx⟩ : ∃ x, a.values[k]? = some x := ⟨a.values[k], by rw [List.getElem?_eq_getElem hlt]⟩
          obtain ⟨t, ht⟩ : ∃ t, m.vars[k]? = some t := ⟨m.vars[k]'(by omega), by rw [List.getElem?_eq_getElem (by omega)]⟩
          obtain ⟨_, bn, on, hbn, hln, cn, _, _⟩ := HV.out k t ht
          obtain ⟨bx, ox, hbx, hlx, cx⟩ := HI.out k x hx
          subst hbn hbx
          have HW := HWO.out _ HB.out
          have dn := (HW.cell (p := ⟨bn, on + k * 3, none⟩) hln).trans cn
          have dx := (HW.cell (p := ⟨bx, ox + k, none⟩) hlx).trans cx
          have ln : bn < wr.heap.size := Nat.lt_of_lt_of_le hln HW.size
          have lx : bx < wr.heap.size := Nat.lt_of_lt_of_le hlx HW.size
          have k0 := blk9 (HQ1.out _ HB.out) 0 _ rfl
          have kl := (Array.getElem?_eq_some_iff.1 (HQ1.out _ HB.out)).1
          have hns := HN.out t (List.mem_of_getElem? ht)
          have hxs := HXB.out x (List.mem_of_getElem? hx)
          have his := HIB.out x (List.mem_of_getElem? hx)
          have HLN : Hid (linesOf m.vars (a.values.take (k + 1)) = linesOf m.vars (a.values.take k) ++ (t.name ++ ⟨#[32, 61, 32]⟩ ++ itoaB x ++ ⟨#[10]⟩).data.toList) := by
            show _ = _
            rw [lines_snoc m.vars a.values k x hx]
            unfold lineOf vnameAt
            rw [List.getD_eq_getElem?_getD, ht]; rfl
          obtain ⟨nm, hnm⟩ : ∃ nm, t.name = nm := ⟨_, rfl⟩
          obtain ⟨ix, hix⟩ : ∃ ix, itoaB x = ix := ⟨_, rfl⟩
          rw [hnm] at dn hns HLN
          rw [hix] at his HLN
          have HIT : Hid (∀ Y, Below wr.heap.size wr Y → Calls Tryz.prog 55 #[.int .i64 x] Y fun e w' => e = .returned (.string ix) ∧ Below Y.heap.size Y w') := fun Y hY => by
            rw [← hix]
            exact itoa_any x (by omega) Y (HP.out _ (HW.trans (hY.mono HW.size)))
          have z1 : ¬ (9223372036854775807 < nm.size + 3) := by omega
          have e1 : (nm ++ (⟨#[32, 61, 32]⟩ : ByteArray)).size = nm.size + 3 := by rw [ByteArray.size_append]; rfl
          have e2 : (nm ++ (⟨#[32, 61, 32]⟩ : ByteArray) ++ ix).size = nm.size + 3 + ix.size := by rw [ByteArray.size_append, e1]
          have e3 : (nm ++ (⟨#[32, 61, 32]⟩ : ByteArray) ++ ix ++ (⟨#[10]⟩ : ByteArray)).size = nm.size + 3 + ix.size + 1 := by rw [ByteArray.size_append, e2]; rfl
          have HSL : Hid ((nm ++ (⟨#[32, 61, 32]⟩ : ByteArray) ++ ix ++ (⟨#[10]⟩ : ByteArray)).size ≤ 1200) := by show _ ≤ _; omega
          have z2 : ¬ (9223372036854775807 < nm.size + 3 + ix.size) := by omega
          have z3 : ¬ (9223372036854775807 < nm.size + 3 + ix.size + 1) := by omega
          have HLL : Hid ((Lib.byteCells ((foundB m.goal).data.toList ++ linesOf m.vars (a.values.take k))).length ≤ 100000000) := by
            show _ ≤ _
            rw [bytes_len, List.length_append]
            have h1 := HFS.out
            have h2 := lines_len m.vars a.values HN.out HIB.out k (by omega)
            have h3 : (foundB m.goal).data.toList.length = (foundB m.goal).size := rfl
            have hk7 : k ≤ 6 := by omega
            omega
          have q1 : (k : Int) < (m.vars.length : Int) := by omega
          have q2 : k < m.vars.length := by omega
          clear hx ht hnm hix cn cx e1 e2 e3 HW
          go_wp2_with fail
          go_region_law
            (first
              | (rw [if_pos (by rfl)]; go_simp; go_at_call 55; refine (HIT.out _ (Below.refl _ _).drew).mono ?_; rintro e w3 ⟨rfl, hb3⟩; have hB3 : Below wr.heap.size wr w3 := (Below.refl _ _).drew.trans hb3; have dn3 := (hB3.cell (p := ⟨bn, on + k * 3, none⟩) ln).trans dn; have k03 := (hB3.cell (p := ⟨w.heap.size, 0, none⟩) kl).trans k0; have kl3 : w.heap.size < w3.heap.size := Nat.lt_of_lt_of_le kl hB3.size; have ln3 : bn < w3.heap.size := Nat.lt_of_lt_of_le ln hB3.size; dsimp only)
              | (rw [if_pos (by rfl)]; go_simp; go_at_call 110; refine (bld_str B B _ _ w3 (bld_below HD.out hB3) (by have := HSL.out; have := HLL.out; omega) (by have := hB3.size; have := HSZ.out; omega)).mono ?_; rintro e w4 ⟨rfl, hd4, hb4, _⟩; dsimp only))
          all_goals
            have HD4 : Hid (Lib.IsBuilderF 150 5 B B (Lib.byteCells ((foundB m.goal).data.toList ++ linesOf m.vars (a.values.take (k + 1)))) w4) := by
              rw [HLN.out, ← List.append_assoc, bytes_cat]
              exact Or.inr hd4
            have HB4 : Hid (Below B W w4) := HB.out.trans ((hB3.mono HSZ.out).trans hb4)
            clear hd4 hb4
            go_wp2
            go_roundw
            case rel => exact ⟨k + 1, by omega, by go_num, HD4.out, HB4.out⟩
            case measure => simp [intOf]; omega
        · have hke : k = a.values.length := by omega
          have HF : Hid (Lib.IsBuilderF 150 5 B B (Lib.byteCells ((foundB m.goal).data.toList ++ linesOf m.vars a.values)) wr) := by
            have h := HD.out
            rw [List.take_of_length_le (by omega)] at h
            exact h
          clear hke
          go_wp2_with fail
          refine (bld_string B B _ wr HF.out HSZ.out).mono ?_
          rintro e w2 ⟨rfl, _, hb2, _⟩
          have HB2 : Hid (Below w.heap.size w w2) := HWO.out _ (HB.out.trans hb2)
          clear hb2
          go_wp2
          go_ret
          rw [← HR2.out]
          exact ⟨rfl, HB2.out⟩
end Go.Proofs.YtdjbejlbmaiocagGreatDoor
/-
  PLAIN: what is answered of a text. WALK: package report: Answer.
-/
namespace Go.Proofs.YtdjbejlbmaiocagGreatDoor
open Go.RowKit

theorem name_short (m : Mod) (hm : checkM m = 0) : ∀ x ∈ m.vars, x.name.size ≤ 12 := by
  intro v hv
  obtain ⟨i, hi⟩ := List.mem_iff_getElem?.1 hv
  have h1 := (checkM_vars m hm).2.2.2.1
  have h2 := firstE_all _ h1 (varE (m.vars.take i) v) (by
    have hl : i < m.vars.length := (List.getElem?_eq_some_iff.1 hi).1
    refine List.mem_map.2 ⟨i, List.mem_range.2 hl, ?_⟩
    rw [List.getD_eq_getElem?_getD, hi]; rfl)
  unfold varE at h2
  split at h2
  · rename_i hn
    unfold isNameB at hn
    rw [Bool.and_eq_true] at hn
    have := ((isTok_iff _ _).1 hn.1).2.2.2.2.2
    unfold errOf at this
    rw [if_pos rfl] at this
    split at this
    · cases this
    · omega
  · cases h2
theorem itoa_short (x : Int) (h : -1000 ≤ x ∧ x ≤ 1000) : (itoaB x).size ≤ 100 := by
  have := Lib.itoa_length_le x (by omega) (by omega)
  have e : (itoaB x).size = (Lib.itoa x).length := by unfold itoaB; simp [ByteArray.size]
  omega
theorem itoa_short2 (x : Int) (h : -1000000 ≤ x ∧ x ≤ 1000000) : (itoaB x).size ≤ 100 := by
  have := Lib.itoa_length_le x (by omega) (by omega)
  have e : (itoaB x).size = (Lib.itoa x).length := by unfold itoaB; simp [ByteArray.size]
  omega
/-- What is best is of right values, or of none. -/
theorem climb_values (m : Mod) (hm : checkM m = 0) (hg : m.goal = 1 ∨ m.goal = 2) : ∀ (N : Nat) (R : Int × List Int × Sk) (b : List Int), roomR m R < N → (R.1 = 1 → Sol m R.2.1) → (b = [] ∨ Sol m b) → (climbP m R b).values = [] ∨ Sol m (climbP m R b).values
  | 0, R, b, h, _, _ => by omega
  | N + 1, R, b, h, hs, hb => by
    rw [climb_step m hm hg R b hs]
    split
    · rename_i h1
      exact climb_values m hm hg N _ _ (by have := climb_room m hm hg R h1 (hs h1); omega) (fun h => (next_found m hm _ h).1) (Or.inr (hs h1))
    · split
      · exact Or.inl rfl
      · split
        · exact hb
        · exact hb
theorem best_values (m : Mod) (hm : checkM m = 0) (fuel : Int) : (bestA m fuel).1.values = [] ∨ Sol m (bestA m fuel).1.values := by
  unfold bestA
  by_cases hg : m.goal = 0
  · rw [if_pos hg]
    unfold solveA
    rw [if_pos hm]
    split
    · exact Or.inl rfl
    · split
      · exact Or.inl rfl
      · obtain ⟨_, n2, _, n4, n5⟩ := next_sound m hm (fun _ => False) _ (startSk fuel) (Nat.lt_succ_self _) (fun x _ hf => hf.elim)
        by_cases h1 : (solveR m fuel).1 = 1
        · exact Or.inr (n2 h1).1
        · exact Or.inl (n5 h1)
  · rw [if_neg hg, if_pos hm]
    obtain ⟨_, _, hgo⟩ := goal_var m hm
    have hg2 : m.goal = 1 ∨ m.goal = 2 := by omega
    split
    · exact Or.inl rfl
    · exact climb_values m hm hg2 _ _ _ (Nat.lt_succ_self _) (fun h => (next_found m hm _ h).1) (Or.inl rfl)
theorem best_err (m : Mod) (hm : checkM m = 0) (fuel : Int) (hf : ¬ (fuel < 0 ∨ 300 < fuel)) : (bestA m fuel).2 = 0 := by
  unfold bestA
  by_cases hg : m.goal = 0
  · rw [if_pos hg]
    unfold solveA
    rw [if_pos hm, if_neg hf]
    split <;> rfl
  · rw [if_neg hg, if_pos hm, if_neg hf]
def textB (at0 : Int) : ByteArray := (⟨#[116, 101, 120, 116, 32]⟩ : ByteArray) ++ itoaB at0 ++ (⟨#[10]⟩ : ByteArray)
def answerA (s : ByteArray) (fuel : Int) : ByteArray × Int :=
  if 4000 < s.size then (⟨#[]⟩, 2) else if fuel < 0 ∨ 300 < fuel then (⟨#[]⟩, 3)
  else if (parseA s).2.2 = 0 then (tellB (parseA s).1 (bestA (parseA s).1 fuel).1, 0) else (textB (parseA s).2.1, 0)
/-- A text that is parsed has a right model; a place is within it. -/
theorem parse_model (s : ByteArray) (h : (parseA s).2.2 = 0) : checkM (parseA s).1 = 0 := by
  obtain ⟨⟨ts, a, e⟩, hs⟩ : ∃ x, scanOf s = x := ⟨_, rfl⟩
  by_cases he : e = 0
  · subst he
    obtain ⟨⟨m, x, e2⟩, hr⟩ : ∃ y, readA s.size ts = y := ⟨_, rfl⟩
    by_cases he2 : e2 = 0
    · subst he2
      by_cases hc : checkM m = 0
      · rw [parse_ok hs hr hc]; exact hc
      · rw [parse_check hs hr hc] at h
        exact absurd h hc
    · rw [parse_read hs hr he2] at h
      exact absurd h he2
  · rw [parse_scan hs he] at h
    exact absurd h he

set_option maxHeartbeats 3200000 in
set_option maxRecDepth 100000 in
theorem answer_any (s : ByteArray) (hs : s.size ≤ maxLen) (fuel : Int) (hat : ¬ 4000 < s.size → -1000000 ≤ (parseA s).2.1 ∧ (parseA s).2.1 ≤ 1000000) (w : World) (hT : TabT w) (hP : TabP w) :
    Calls Tryz.prog 20 #[.string s, .int .i64 fuel] w fun e w' => e = .returned (.tuple #[.string (answerA s fuel).1, .int .i64 (answerA s fuel).2]) ∧ Below w.heap.size w w' := by
  have HT : Hid (∀ w', Below w.heap.size w w' → TabT w') := fun w' h => hT.below h
  have HP : Hid (∀ w', Below w.heap.size w w' → TabP w') := fun w' h => hP.below h
  have HS : Hid (s.size ≤ maxLen) := hs
  have HAT : Hid (¬ 4000 < s.size → -1000000 ≤ (parseA s).2.1 ∧ (parseA s).2.1 ≤ 1000000) := hat
  obtain ⟨R, hR⟩ : ∃ R, answerA s fuel = R := ⟨_, rfl⟩
  rw [hR]
  unfold answerA at hR
  have HR := (show Hid _ from hR)
  clear hR hT hP hs hat
  by_cases h4 : 4000 < s.size
  · have hR := HR.out
    rw [if_pos h4] at hR
    have HN : Hid (((⟨#[]⟩ : ByteArray), (2 : Int)) = R) := hR
    have h4' : (4000 : Int) < (s.size : Int) := by omega
    clear hR HR
    go_enter Tryz.func20, Tryz.ntmps20
    go_wp2
    go_ret2
    rw [← HN.out]
    exact ⟨rfl, Below.refl _ _⟩
  · have h4' : ¬ (4000 : Int) < (s.size : Int) := by omega
    by_cases hf : fuel < 0 ∨ 300 < fuel
    · have hR := HR.out
      rw [if_neg h4, if_pos hf] at hR
      have HN : Hid (((⟨#[]⟩ : ByteArray), (3 : Int)) = R) := hR
      clear hR HR
      by_cases hf0 : fuel < 0
      · clear hf
        go_enter Tryz.func20, Tryz.ntmps20
        go_wp2
        go_ret2
        rw [← HN.out]
        exact ⟨rfl, Below.refl _ _⟩
      · have hf1 : 300 < fuel := by rcases hf with h | h; exact absurd h hf0; exact h
        clear hf
        go_enter Tryz.func20, Tryz.ntmps20
        go_wp2
        go_ret2
        rw [← HN.out]
        exact ⟨rfl, Below.refl _ _⟩
    · have hR := HR.out
      rw [if_neg h4, if_neg hf] at hR
      have HR2 := (show Hid _ from hR)
      have hf0 : ¬ fuel < 0 := fun h => hf (Or.inl h)
      have hf1 : ¬ 300 < fuel := fun h => hf (Or.inr h)
      have HFF : Hid (¬ (fuel < 0 ∨ 300 < fuel)) := hf
      have hbd := HAT.out h4
      have HPM : Hid ((parseA s).2.2 = 0 → checkM (parseA s).1 = 0) := parse_model s
      obtain ⟨⟨m, at0, er⟩, hp⟩ : ∃ P, parseA s = P := ⟨_, rfl⟩
      have HPA : Hid (parseA s = (m, at0, er)) := hp
      rw [hp] at HR2 hbd HPM
      simp only at hbd
      clear hR HR hp hf HAT
      go_enter Tryz.func20, Tryz.ntmps20
      go_wp2_with fail
      refine (parse_any s HS.out _).mono ?_
      rintro e w1 ⟨vs, cs, rfl, hm1, hb1⟩
      rw [HPA.out] at hm1 ⊢
      dsimp only at hm1 ⊢
      have HMA : Hid (∀ w', Below w1.heap.size w1 w' → MArg w' vs cs m) := fun w' h => MArg.below h hm1.marg
      have HB1 : Hid (Below w.heap.size w w1) := hb1
      obtain ⟨⟨a1, c1, rfl, _, _⟩, ⟨a2, c2, rfl, _, _⟩⟩ := hm1.marg
      unfold modV
      clear hm1 hb1
      by_cases he : er = 0
      · have hR := HR2.out
        rw [if_pos he] at hR
        have HCM : Hid (checkM m = 0) := HPM.out he
        subst he
        have HN : Hid ((tellB m (bestA m fuel).1, (0 : Int)) = R) := hR
        clear hR HR2 HPM
        have HBV := (show Hid _ from best_values m HCM.out fuel)
        have HBE : Hid ((bestA m fuel).2 = 0) := best_err m HCM.out fuel HFF.out
        obtain ⟨⟨⟨RV, RX, RP⟩, RE⟩, hB⟩ : ∃ B, bestA m fuel = B := ⟨_, rfl⟩
        have HBA : Hid (bestA m fuel = (⟨RV, RX, RP⟩, RE)) := hB
        rw [hB] at HBV HBE HN
        have hre : RE = 0 := HBE.out
        subst hre
        clear hB
        go_wp2_with fail
        have hbY : Below w1.heap.size w1 (w1.alloc (.cells #[.slice a1 m.vars.length c1, .slice a2 m.cons.length c2, .int .i64 m.goal, .int .i64 m.var] 25)) := below_alloc _ _
        have hblY := heap_alloc_new w1 (.cells #[.slice a1 m.vars.length c1, .slice a2 m.cons.length c2, .int .i64 m.goal, .int .i64 m.var] 25)
        refine (best_any m fuel (.slice a1 m.vars.length c1) (.slice a2 m.cons.length c2) _ (HMA.out _ hbY) (HT.out _ (HB1.out.trans (hbY.mono HB1.out.size)))).mono ?_
        rintro e w2 ⟨vv, pp, rfl, hq, hb2⟩
        rw [HBA.out] at hq ⊢
        dsimp only at hq ⊢
        obtain ⟨⟨ax, cx, rfl⟩, ap, np, cp, rfl⟩ := hq.forms
        have HQ2 : Hid (w2.heap[w1.heap.size]? = some (.cells #[.slice a1 m.vars.length c1, .slice a2 m.cons.length c2, .int .i64 m.goal, .int .i64 m.var] 25)) := (hb2.block _ (by simp)).trans hblY
        have HB12 : Hid (Below w1.heap.size w1 w2) := hbY.trans (hb2.mono (by simp))
        have HX : Hid (∀ Y, Below w2.heap.size w2 Y → IArg Y (.slice ax RX.length cx) RX) := fun Y hY => IArg.below hY (own_ilist hq.val)
        simp only
        clear hb2 hbY hblY hq
        have k0 := blk9 HQ2.out 0 _ rfl
        have k1 := blk9 HQ2.out 1 _ rfl
        have k2 := blk9 HQ2.out 2 _ rfl
        have k3 := blk9 HQ2.out 3 _ rfl
        have kl := (Array.getElem?_eq_some_iff.1 HQ2.out).1
        go_wp2_with fail
        have hbZ : Below w2.heap.size w2 (w2.alloc (.cells #[.int .i64 RV, .slice ax RX.length cx, .slice ap np cp] 29)) := below_alloc _ _
        have hbZ1 := HB12.out.trans (hbZ.mono HB12.out.size)
        have HBZ : Hid (Below w.heap.size w (w2.alloc (.cells #[.int .i64 RV, .slice ax RX.length cx, .slice ap np cp] 29))) := HB1.out.trans (hbZ1.mono HB1.out.size)
        have hin : ∀ x ∈ RX, -1000 ≤ x ∧ x ≤ 1000 := fun x hx => by
          rcases HBV.out with h | h
          · have h : RX = [] := h
            rw [h] at hx; cases hx
          · obtain ⟨i, hi⟩ := List.mem_iff_getElem?.1 hx
            have hil := (List.getElem?_eq_some_iff.1 hi).1
            have h1 : RX.length = m.vars.length := h.1.1
            have h2 := h.1.2 i (by omega)
            have h3 := vars_bounds m HCM.out i (by omega)
            have h4 : valAt RX (i : Int) = x := by unfold valAt; rw [Int.toNat_natCast, List.getD_eq_getElem?_getD, hi]; rfl
            change (varAt m.vars i).lo ≤ valAt RX (i : Int) ∧ valAt RX (i : Int) ≤ (varAt m.vars i).hi at h2
            omega
        have hlen : RX.length ≤ m.vars.length := by
          rcases HBV.out with h | h
          · have h : RX = [] := h
            rw [h]; simp
          · have h1 : RX.length = m.vars.length := h.1.1
            omega
        refine (tell_any m ⟨RV, RX, RP⟩ (fun x hx => by have := name_short m HCM.out x hx; omega) hlen ((checkM_vars m HCM.out).2.1) hin (fun x hx => itoa_short x (hin x hx)) (.slice a1 m.vars.length c1) (.slice a2 m.cons.length c2) _ ap np cp _ (HMA.out _ hbZ1) (HX.out _ hbZ) (HP.out _ HBZ.out)).mono ?_
        rintro e w3 ⟨rfl, hb3⟩
        have HB3 : Hid (Below w.heap.size w w3) := HBZ.out.trans (hb3.mono HBZ.out.size)
        clear hb3 hbZ hbZ1 hin hlen
        go_wp2
        go_ret2
        rw [← HN.out]
        exact ⟨rfl, HB3.out⟩
      · have hR := HR2.out
        rw [if_neg he] at hR
        have HN : Hid ((textB at0, (0 : Int)) = R) := hR
        have he' : (er != 0) = true := by simpa using he
        have HIT : Hid (∀ Y, Below w.heap.size w Y → Calls Tryz.prog 55 #[.int .i64 at0] Y fun e w' => e = .returned (.string (itoaB at0)) ∧ Below Y.heap.size Y w') := fun Y hY => itoa_any at0 hbd Y (HP.out _ hY)
        have his := itoa_short2 at0 hbd
        obtain ⟨ix, hix⟩ : ∃ ix, itoaB at0 = ix := ⟨_, rfl⟩
        unfold textB at HN
        rw [hix] at HIT his HN
        have z1 : ¬ (9223372036854775807 < 5 + ix.size) := by omega
        have z2 : ¬ (9223372036854775807 < 5 + ix.size + 1) := by omega
        clear hR HR2 he hix
        go_wp2_with fail
        refine (HIT.out _ (HB1.out.alloc HB1.out.size _)).mono ?_
        rintro e w2 ⟨rfl, hb2⟩
        have HB2 : Hid (Below w.heap.size w w2) := (HB1.out.alloc HB1.out.size _).trans (hb2.mono (by have := HB1.out.size; simp; omega))
        clear hb2
        go_wp2
        go_ret2
        rw [← HN.out]
        exact ⟨rfl, HB2.out⟩
end Go.Proofs.YtdjbejlbmaiocagGreatDoor
/-
  WALKS: the reference's Digits.
-/
namespace Go.Proofs.YtdjbejlbmaiocagGreatDoor
open Go.RowKit

theorem itoaB_small (u : Nat) (h : u < 10) : itoaB (u : Int) = ⟨#[UInt8.ofNat (48 + u)]⟩ := by
  unfold itoaB
  rw [Lib.itoa_nonneg, Lib.decDigits_one h]
theorem itoaB_big (u : Nat) (h : ¬ u < 10) : itoaB (u : Int) = itoaB ((u / 10 : Nat) : Int) ++ itoaB ((u % 10 : Nat) : Int) := by
  unfold itoaB
  rw [Lib.itoa_nonneg, Lib.itoa_nonneg, Lib.itoa_nonneg, Lib.decDigits, dif_neg h, Lib.decDigits_one (i := u % 10) (by omega)]
  apply ByteArray.ext
  simp [ByteArray.data_append]
theorem itoaB_neg (u : Nat) (h : 1 ≤ u) : itoaB (-(u : Int)) = (⟨#[45]⟩ : ByteArray) ++ itoaB (u : Int) := by
  unfold itoaB
  rw [Lib.itoa_nonneg, Lib.itoa_neg u h]
  apply ByteArray.ext
  simp [ByteArray.data_append]
theorem itoaB_size (n : Int) (hn : -1000000 ≤ n ∧ n ≤ 1000000) : (itoaB n).size ≤ 21 := by
  have := Lib.itoa_length_le n (by omega) (by omega)
  simpa [itoaB, ByteArray.size] using this
set_option maxHeartbeats 800000 in
set_option maxRecDepth 100000 in
theorem digit_small (u : Nat) (h : u < 10) (w : World) :
    Calls Tryz.prog 23 #[.int .i64 (u : Int)] w fun e w' => e = .returned (.string (itoaB (u : Int))) ∧ Below w.heap.size w w' := by
  rw [itoaB_small u h]
  have h1 : decide ((u : Int) < 0) = false := by simp
  have h2 : decide ((u : Int) < 10) = true := by simp; omega
  have h3 : IntKind.i64.wrap (48 + (u : Int)) = 48 + (u : Int) := by rw [IntKind.wrap_i64]; omega
  have hby : Lib.Bytes (w.alloc (.cells #[.int .u8 (48 + (u : Int))] 5)) w.heap.size 0 ⟨#[UInt8.ofNat (48 + u)]⟩ := fun i hi => by
    have : i = 0 := by have : i < 1 := hi; omega
    subst this
    rw [Nat.add_zero, World.cell?_alloc_mark]
    show some (Value.int .u8 (48 + (u : Int))) = some (.int .u8 (((UInt8.ofNat (48 + u)).toNat : Nat) : Int))
    have e : (((UInt8.ofNat (48 + u)).toNat : Nat) : Int) = 48 + (u : Int) := by rw [UInt8.toNat_ofNat']; omega
    rw [e]
  have hsD : (⟨#[UInt8.ofNat (48 + u)]⟩ : ByteArray).size = 1 := rfl
  obtain ⟨D, hD⟩ : ∃ D, (⟨#[UInt8.ofNat (48 + u)]⟩ : ByteArray) = D := ⟨_, rfl⟩
  rw [hD] at hby hsD ⊢
  have hcv : Sem.run Tryz.prog (convert 107 9 (.slice (some ⟨w.heap.size, 0, none⟩) 1 1)) (w.alloc (.cells #[.int .u8 (48 + (u : Int))] 5)) = .ok (.string D) (w.alloc (.cells #[.int .u8 (48 + (u : Int))] 5)) := by
    have := Lib.run_convert_whole (P := Tryz.prog) _ 107 5 9 (by kernel_rfl) Tryz.underlying5 Tryz.underlying9 w.heap.size 0 D hby 1
    rw [hsD] at this
    exact this
  clear hby hD hsD
  go_enter Tryz.func23, Tryz.ntmps23
  go_wp2
  go_ret
  exact ⟨rfl, below_alloc _ _⟩

set_option maxHeartbeats 800000 in
set_option maxRecDepth 100000 in
theorem digit_nat (u : Nat) (hu : u ≤ 1000000) : ∀ w : World,
    Calls Tryz.prog 23 #[.int .i64 (u : Int)] w fun e w' => e = .returned (.string (itoaB (u : Int))) ∧ Below w.heap.size w w' := by
  induction u using Nat.strongRecOn with
  | _ u ih =>
    intro w
    by_cases h : u < 10
    · exact digit_small u h w
    · have HA : Hid (∀ w : World, Calls Tryz.prog 23 #[.int .i64 ((u / 10 : Nat) : Int)] w fun e w' => e = .returned (.string (itoaB ((u / 10 : Nat) : Int))) ∧ Below w.heap.size w w') := ih (u / 10) (by omega) (by omega)
      have HB : Hid (∀ w : World, Calls Tryz.prog 23 #[.int .i64 ((u % 10 : Nat) : Int)] w fun e w' => e = .returned (.string (itoaB ((u % 10 : Nat) : Int))) ∧ Below w.heap.size w w') := digit_small (u % 10) (by omega)
      have s1 := itoaB_size ((u / 10 : Nat) : Int) (by omega)
      have s2 := itoaB_size ((u % 10 : Nat) : Int) (by omega)
      rw [itoaB_big u h]
      obtain ⟨A, hA⟩ : ∃ A, itoaB ((u / 10 : Nat) : Int) = A := ⟨_, rfl⟩
      obtain ⟨B, hB⟩ : ∃ B, itoaB ((u % 10 : Nat) : Int) = B := ⟨_, rfl⟩
      rw [hA] at HA s1 ⊢
      rw [hB] at HB s2 ⊢
      have hsz : ¬ (9223372036854775807 < A.size + B.size) := by omega
      have h1 : decide ((u : Int) < 0) = false := by simp
      have h2 : decide ((u : Int) < 10) = false := by simp; omega
      have h3 : (u : Int).tdiv 10 = ((u / 10 : Nat) : Int) := rfl
      have h4 : (u : Int).tmod 10 = ((u % 10 : Nat) : Int) := rfl
      clear hA hB ih s1 s2
      go_enter Tryz.func23, Tryz.ntmps23
      go_wp2_with fail
      refine (HA.out _).mono ?_
      rintro e w1 ⟨rfl, hb1⟩
      go_wp2_with fail
      refine (HB.out _).mono ?_
      rintro e w2 ⟨rfl, hb2⟩
      go_wp2
      go_ret
      exact ⟨rfl, hb1.trans (hb2.mono hb1.size)⟩

set_option maxHeartbeats 800000 in
set_option maxRecDepth 100000 in
theorem digits_any (n : Int) (hn : -1000000 ≤ n ∧ n ≤ 1000000) (w : World) :
    Calls Tryz.prog 23 #[.int .i64 n] w fun e w' => e = .returned (.string (itoaB n)) ∧ Below w.heap.size w w' := by
  by_cases h0 : 0 ≤ n
  · obtain ⟨u, rfl⟩ : ∃ u : Nat, n = (u : Int) := ⟨n.toNat, by omega⟩
    exact digit_nat u (by omega) w
  · obtain ⟨u, rfl⟩ : ∃ u : Nat, n = -(u : Int) := ⟨(-n).toNat, by omega⟩
    have hu1 : 1 ≤ u := by omega
    have hul : u ≤ 1000000 := by omega
    rw [itoaB_neg u hu1]
    have h1 : decide (-(u : Int) < 0) = true := by simp; omega
    by_cases h : u < 10
    · have h2 : decide (-(u : Int) > -10) = true := by simp; omega
      have HA : Hid (∀ w : World, Calls Tryz.prog 23 #[.int .i64 (u : Int)] w fun e w' => e = .returned (.string (itoaB (u : Int))) ∧ Below w.heap.size w w') := digit_nat u hul
      have s1 := itoaB_size (u : Int) (by omega)
      obtain ⟨A, hA⟩ : ∃ A, itoaB (u : Int) = A := ⟨_, rfl⟩
      rw [hA] at HA s1 ⊢
      have hsz : ¬ (9223372036854775807 < (⟨#[45]⟩ : ByteArray).size + A.size) := by have : (⟨#[45]⟩ : ByteArray).size = 1 := rfl; omega
      have h3 : IntKind.i64.wrap (- -(u : Int)) = (u : Int) := by rw [IntKind.wrap_i64]; omega
      have h3' : IntKind.i64.wrap (u : Int) = (u : Int) := by rw [IntKind.wrap_i64]; omega
      clear hA s1
      go_enter Tryz.func23, Tryz.ntmps23
      go_wp2_with fail
      refine (HA.out _).mono ?_
      rintro e w1 ⟨rfl, hb1⟩
      go_wp2
      go_ret
      exact ⟨rfl, hb1⟩
    · have h2 : decide (-(u : Int) > -10) = false := by simp; omega
      have HA : Hid (∀ w : World, Calls Tryz.prog 23 #[.int .i64 ((u / 10 : Nat) : Int)] w fun e w' => e = .returned (.string (itoaB ((u / 10 : Nat) : Int))) ∧ Below w.heap.size w w') := digit_nat (u / 10) (by omega)
      have HB : Hid (∀ w : World, Calls Tryz.prog 23 #[.int .i64 ((u % 10 : Nat) : Int)] w fun e w' => e = .returned (.string (itoaB ((u % 10 : Nat) : Int))) ∧ Below w.heap.size w w') := digit_nat (u % 10) (by omega)
      have s1 := itoaB_size ((u / 10 : Nat) : Int) (by omega)
      have s2 := itoaB_size ((u % 10 : Nat) : Int) (by omega)
      rw [itoaB_big u h]
      obtain ⟨A, hA⟩ : ∃ A, itoaB ((u / 10 : Nat) : Int) = A := ⟨_, rfl⟩
      obtain ⟨B, hB⟩ : ∃ B, itoaB ((u % 10 : Nat) : Int) = B := ⟨_, rfl⟩
      rw [hA] at HA s1 ⊢
      rw [hB] at HB s2 ⊢
      have hsz : ¬ (9223372036854775807 < (⟨#[45]⟩ : ByteArray).size + A.size) := by have : (⟨#[45]⟩ : ByteArray).size = 1 := rfl; omega
      have hsz2 : ¬ (9223372036854775807 < ((⟨#[45]⟩ : ByteArray) ++ A).size + B.size) := by have : (⟨#[45]⟩ : ByteArray).size = 1 := rfl; rw [ByteArray.size_append]; omega
      have hap : (⟨#[45]⟩ : ByteArray) ++ (A ++ B) = (⟨#[45]⟩ : ByteArray) ++ A ++ B := by apply ByteArray.ext; simp [ByteArray.data_append]
      rw [hap]
      have h3 : (-(u : Int)).tdiv 10 = -((u / 10 : Nat) : Int) := by rw [Int.neg_tdiv]; rfl
      have h4 : (-(u : Int)).tmod 10 = -((u % 10 : Nat) : Int) := by rw [Int.neg_tmod]; rfl
      have h5 : IntKind.i64.wrap (- -((u / 10 : Nat) : Int)) = ((u / 10 : Nat) : Int) := by rw [IntKind.wrap_i64]; omega
      have h6 : IntKind.i64.wrap (- -((u % 10 : Nat) : Int)) = ((u % 10 : Nat) : Int) := by rw [IntKind.wrap_i64]; omega
      clear hA hB s1 s2 hap
      go_enter Tryz.func23, Tryz.ntmps23
      go_wp2_with fail
      refine (HA.out _).mono ?_
      rintro e w1 ⟨rfl, hb1⟩
      go_wp2_with fail
      refine (HB.out _).mono ?_
      rintro e w2 ⟨rfl, hb2⟩
      go_wp2
      go_ret
      exact ⟨rfl, hb1.trans (hb2.mono hb1.size)⟩
end Go.Proofs.YtdjbejlbmaiocagGreatDoor
/-
  WALK: the laws' own answerText.
-/
namespace Go.Proofs.YtdjbejlbmaiocagGreatDoor
open Go.RowKit

def strK (m : Mod) (a : Ans) (k : Nat) : ByteArray := ⟨((foundB m.goal).data.toList ++ linesOf m.vars (a.values.take k)).toArray⟩
theorem strK_zero (m : Mod) (a : Ans) : strK m a 0 = foundB m.goal := by
  apply ByteArray.ext
  simp [strK, linesOf]
theorem strK_next (m : Mod) (a : Ans) (k : Nat) (x : Int) (t : MVar) (hx : a.values[k]? = some x) (ht : m.vars[k]? = some t) :
    strK m a (k + 1) = strK m a k ++ (t.name ++ ⟨#[32, 61, 32]⟩ ++ itoaB x ++ ⟨#[10]⟩) := by
  apply ByteArray.ext
  unfold strK
  rw [lines_snoc m.vars a.values k x hx]
  unfold lineOf vnameAt
  rw [List.getD_eq_getElem?_getD, ht]
  simp [ByteArray.data_append]
theorem strK_end (m : Mod) (a : Ans) (h1 : a.verdict = 1) : strK m a a.values.length = tellB m a := by
  unfold strK tellB
  rw [if_neg (by rw [h1]; decide), if_neg (by rw [h1]; decide), List.take_length]
theorem strK_size (m : Mod) (a : Ans) (hn : ∀ x ∈ m.vars, x.name.size ≤ 1000) (hi : ∀ x ∈ a.values, (itoaB x).size ≤ 100) (k : Nat) (hk : k ≤ a.values.length) : (strK m a k).size ≤ 10 + 2000 * k := by
  have h1 := lines_len m.vars a.values hn hi k hk
  have h2 : (foundB m.goal).size ≤ 10 := by unfold foundB; split <;> decide
  have h3 : (foundB m.goal).data.toList.length = (foundB m.goal).size := rfl
  have h4 : (strK m a k).size = ((foundB m.goal).data.toList ++ linesOf m.vars (a.values.take k)).length := by
    show (((foundB m.goal).data.toList ++ linesOf m.vars (a.values.take k)).toArray).size = _
    rw [List.size_toArray]
  rw [h4, List.length_append]
  omega

set_option maxHeartbeats 3200000 in
set_option maxRecDepth 100000 in
theorem atext_any (m : Mod) (a : Ans) (h3 : a.verdict = 1 ∨ a.verdict = 2 ∨ a.verdict = 3) (hn : ∀ x ∈ m.vars, x.name.size ≤ 1000) (hl : a.values.length ≤ m.vars.length) (hl6 : m.vars.length ≤ 6) (hx : ∀ x ∈ a.values, -1000 ≤ x ∧ x ≤ 1000) (hi : ∀ x ∈ a.values, (itoaB x).size ≤ 100) (vs cs vv : Value) (ap : Option Addr) (np cp : Nat) (w : World) (hma : MArg w vs cs m) (hv : IArg w vv a.values) :
    Calls Tryz.prog 24 #[modV vs cs m, .agg #[.int .i64 a.verdict, vv, .slice ap np cp]] w fun e w' => e = .returned (.string (tellB m a)) ∧ Below w.heap.size w w' := by
  obtain ⟨⟨a1, c1, rfl, _, hvr⟩, ⟨a2, c2, rfl, _, _⟩⟩ := hma
  obtain ⟨av, cv, rfl, _, hir⟩ := hv
  have HV : Hid (∀ (i : Nat) (t : MVar), m.vars[i]? = some t → t.name.size ≤ maxLen ∧ ∃ b off, a1 = some ⟨b, off, none⟩ ∧ b < w.heap.size ∧
    w.cell? ⟨b, off + i * 3, none⟩ = some (.string t.name) ∧ w.cell? ⟨b, off + i * 3 + 1, none⟩ = some (.int .i64 t.lo) ∧ w.cell? ⟨b, off + i * 3 + 2, none⟩ = some (.int .i64 t.hi)) := hvr
  have HI : Hid (∀ (i : Nat) (z : Int), a.values[i]? = some z → ∃ b off, av = some ⟨b, off, none⟩ ∧ b < w.heap.size ∧ w.cell? ⟨b, off + i, none⟩ = some (.int .i64 z)) := hir
  have HN : Hid (∀ x ∈ m.vars, x.name.size ≤ 1000) := hn
  have HXB : Hid (∀ x ∈ a.values, -1000 ≤ x ∧ x ≤ 1000) := hx
  have HIB : Hid (∀ x ∈ a.values, (itoaB x).size ≤ 100) := hi
  clear hvr hir hn hx hi
  unfold modV
  by_cases h1 : a.verdict = 1
  · have HE : Hid (strK m a a.values.length = tellB m a) := strK_end m a h1
    obtain ⟨R, hR⟩ : ∃ R, tellB m a = R := ⟨_, rfl⟩
    rw [hR] at HE ⊢
    rw [h1]
    clear hR h3 h1
    obtain ⟨q1, q2⟩ := two_blocks w (.cells #[.slice a1 m.vars.length c1, .slice a2 m.cons.length c2, .int .i64 m.goal, .int .i64 m.var] 25) (.cells #[.int .i64 1, .slice av a.values.length cv, .slice ap np cp] 29)
    have hbW : Below w.heap.size w ((w.alloc (.cells #[.slice a1 m.vars.length c1, .slice a2 m.cons.length c2, .int .i64 m.goal, .int .i64 m.var] 25)).alloc (.cells #[.int .i64 1, .slice av a.values.length cv, .slice ap np cp] 29)) := (below_alloc _ _).alloc (by simp) _
    have hszW : ((w.alloc (.cells #[.slice a1 m.vars.length c1, .slice a2 m.cons.length c2, .int .i64 m.goal, .int .i64 m.var] 25)).alloc (.cells #[.int .i64 1, .slice av a.values.length cv, .slice ap np cp] 29)).heap.size = w.heap.size + 1 + 1 := by simp
    have HQ : Hid (∀ Y, Below (w.heap.size + 1 + 1) ((w.alloc (.cells #[.slice a1 m.vars.length c1, .slice a2 m.cons.length c2, .int .i64 m.goal, .int .i64 m.var] 25)).alloc (.cells #[.int .i64 1, .slice av a.values.length cv, .slice ap np cp] 29)) Y → Y.heap[w.heap.size]? = some (.cells #[.slice a1 m.vars.length c1, .slice a2 m.cons.length c2, .int .i64 m.goal, .int .i64 m.var] 25) ∧ Y.heap[w.heap.size + 1]? = some (.cells #[.int .i64 1, .slice av a.values.length cv, .slice ap np cp] 29) ∧ Below w.heap.size w Y ∧ w.heap.size + 1 + 1 ≤ Y.heap.size) := fun Y hY =>
      ⟨(hY.block _ (by omega)).trans q1, (hY.block _ (by omega)).trans q2, hbW.trans (hY.mono (by omega)), Nat.le_trans (Nat.le_of_eq hszW.symm) hY.size⟩
    clear q1 q2 hbW hszW
    go_enter Tryz.func24, Tryz.ntmps24
    by_cases hg : m.goal = 0
    · have HF : Hid (foundB m.goal = ⟨#[102, 111, 117, 110, 100, 10]⟩) := by show _ = _; unfold foundB; rw [if_pos hg]
      have hg' : (m.goal == 0) = true := by simpa using hg
      clear hg
      go_wp2_with fail
      go_loopw [5, 6] (fun s i wr => ∃ k : Nat, k ≤ a.values.length ∧ i = .int .i64 k ∧ s = .string (strK m a k) ∧ Below (w.heap.size + 1 + 1) ((w.alloc (.cells #[.slice a1 m.vars.length c1, .slice a2 m.cons.length c2, .int .i64 m.goal, .int .i64 m.var] 25)).alloc (.cells #[.int .i64 1, .slice av a.values.length cv, .slice ap np cp] 29)) wr) (fun _ i _ => a.values.length - (intOf i).toNat)
      case atStart => exact ⟨0, by omega, rfl, by rw [strK_zero, HF.out], Below.refl _ _⟩
      case round =>
        obtain ⟨k, hk, rfl, rfl, hb⟩ := hrel
        obtain ⟨q1, q2, hW, hsz⟩ := HQ.out _ hb
        have HB := (show Hid _ from hb)
        have k0 := blk9 q1 0 _ rfl
        have kl := (Array.getElem?_eq_some_iff.1 q1).1
        have j1 := blk9 q2 1 _ rfl
        have jl := (Array.getElem?_eq_some_iff.1 q2).1
        have hss := strK_size m a HN.out HIB.out k hk
        have HW := (show Hid _ from hW)
        clear hb q1 q2 hW
        by_cases hlt : k < a.values.length
        · obtain ⟨x, hx⟩ : ∃ x, a.values[k]? = some x := ⟨a.values[k], by rw [List.getElem?_eq_getElem hlt]⟩
          obtain ⟨t, ht⟩ : ∃ t, m.vars[k]? = some t := ⟨m.vars[k]'(by omega), by rw [List.getElem?_eq_getElem (by omega)]⟩
          obtain ⟨_, bn, on, hbn, hln, cn, _, _⟩ := HV.out k t ht
          obtain ⟨bx, ox, hbx, hlx, cx⟩ := HI.out k x hx
          subst hbn hbx
          have dn := (HW.out.cell (p := ⟨bn, on + k * 3, none⟩) hln).trans cn
          have dx := (HW.out.cell (p := ⟨bx, ox + k, none⟩) hlx).trans cx
          have ln : bn < wr.heap.size := Nat.lt_of_lt_of_le hln HW.out.size
          have lx : bx < wr.heap.size := Nat.lt_of_lt_of_le hlx HW.out.size
          have hns := HN.out t (List.mem_of_getElem? ht)
          have hxs := HXB.out x (List.mem_of_getElem? hx)
          have his := HIB.out x (List.mem_of_getElem? hx)
          have HLN : Hid (strK m a (k + 1) = strK m a k ++ (t.name ++ ⟨#[32, 61, 32]⟩ ++ itoaB x ++ ⟨#[10]⟩)) := strK_next m a k x t hx ht
          have HIT : Hid (∀ Y : World, Calls Tryz.prog 23 #[.int .i64 x] Y fun e w' => e = .returned (.string (itoaB x)) ∧ Below Y.heap.size Y w') := fun Y => digits_any x (by omega) Y
          obtain ⟨nm, hnm⟩ : ∃ nm, t.name = nm := ⟨_, rfl⟩
          obtain ⟨ix, hix⟩ : ∃ ix, itoaB x = ix := ⟨_, rfl⟩
          obtain ⟨S, hS⟩ : ∃ S, strK m a k = S := ⟨_, rfl⟩
          rw [hnm] at dn hns HLN
          rw [hix] at his HLN HIT
          rw [hS] at HLN hss ⊢
          have z1 : ¬ (9223372036854775807 < nm.size + 3) := by omega
          have z2 : ¬ (9223372036854775807 < nm.size + 3 + ix.size) := by omega
          have z3 : ¬ (9223372036854775807 < nm.size + 3 + ix.size + 1) := by omega
          have z4 : ¬ (9223372036854775807 < S.size + (nm.size + 3 + ix.size + 1)) := by omega
          have p1 : (k : Int) < (m.vars.length : Int) := by omega
          have p2 : k < m.vars.length := by omega
          have p3 : decide ((k : Int) < (m.vars.length : Int)) = true := by simpa using p1
          have p4 : decide ((k : Int) < (a.values.length : Int)) = true := by simp; omega
          clear hx ht hnm hix hS cn cx hns his hss
          go_wp2_with fail
          go_region_law
            (first
              | (rw [if_pos (by rfl)]; go_simp; go_at_call 23; refine (HIT.out _).mono ?_; rintro e w3 ⟨rfl, hb3⟩; have hB3 : Below wr.heap.size wr w3 := (Below.refl _ _).drew.trans hb3; have dn3 := (hB3.cell (p := ⟨bn, on + k * 3, none⟩) ln).trans dn; have k03 := (hB3.cell (p := ⟨w.heap.size, 0, none⟩) kl).trans k0; have kl3 : w.heap.size < w3.heap.size := Nat.lt_of_lt_of_le kl hB3.size; have ln3 : bn < w3.heap.size := Nat.lt_of_lt_of_le ln hB3.size; dsimp only))
          all_goals
            have HB3 := (show Hid _ from HB.out.trans (hB3.mono hsz))
            go_wp2
            go_roundw
            case rel => exact ⟨k + 1, by omega, by go_num, by rw [HLN.out], HB3.out⟩
            case measure => simp [intOf]; omega
        · have hke : k = a.values.length := by omega
          have p4 : decide ((k : Int) < (a.values.length : Int)) = false := by simp; omega
          have HK : Hid (strK m a k = R) := by show _ = _; rw [hke]; exact HE.out
          rw [HK.out]
          clear hke hss
          go_wp2
          go_ret
          exact ⟨rfl, HW.out⟩
    · have HF : Hid (foundB m.goal = ⟨#[98, 101, 115, 116, 10]⟩) := by show _ = _; unfold foundB; rw [if_neg hg]
      have hg' : (m.goal == 0) = false := by simpa using hg
      clear hg
      go_wp2_with fail
      go_loopw [5, 6] (fun s i wr => ∃ k : Nat, k ≤ a.values.length ∧ i = .int .i64 k ∧ s = .string (strK m a k) ∧ Below (w.heap.size + 1 + 1) ((w.alloc (.cells #[.slice a1 m.vars.length c1, .slice a2 m.cons.length c2, .int .i64 m.goal, .int .i64 m.var] 25)).alloc (.cells #[.int .i64 1, .slice av a.values.length cv, .slice ap np cp] 29)) wr) (fun _ i _ => a.values.length - (intOf i).toNat)
      case atStart => exact ⟨0, by omega, rfl, by rw [strK_zero, HF.out], Below.refl _ _⟩
      case round =>
        obtain ⟨k, hk, rfl, rfl, hb⟩ := hrel
        obtain ⟨q1, q2, hW, hsz⟩ := HQ.out _ hb
        have HB := (show Hid _ from hb)
        have k0 := blk9 q1 0 _ rfl
        have kl := (Array.getElem?_eq_some_iff.1 q1).1
        have j1 := blk9 q2 1 _ rfl
        have jl := (Array.getElem?_eq_some_iff.1 q2).1
        have hss := strK_size m a HN.out HIB.out k hk
        have HW := (show Hid _ from hW)
        clear hb q1 q2 hW
        by_cases hlt : k < a.values.length
        · obtain ⟨x, hx⟩ : ∃ x, a.values[k]? = some x := ⟨a.values[k], by rw [List.getElem?_eq_getElem hlt]⟩
          obtain ⟨t, ht⟩ : ∃ t, m.vars[k]? = some t := ⟨m.vars[k]'(by omega), by rw [List.getElem?_eq_getElem (by omega)]⟩
          obtain ⟨_, bn, on, hbn, hln, cn, _, _⟩ := HV.out k t ht
          obtain ⟨bx, ox, hbx, hlx, cx⟩ := HI.out k x hx
          subst hbn hbx
          have dn := (HW.out.cell (p := ⟨bn, on + k * 3, none⟩) hln).trans cn
          have dx := (HW.out.cell (p := ⟨bx, ox + k, none⟩) hlx).trans cx
          have ln : bn < wr.heap.size := Nat.lt_of_lt_of_le hln HW.out.size
          have lx : bx < wr.heap.size := Nat.lt_of_lt_of_le hlx HW.out.size
          have hns := HN.out t (List.mem_of_getElem? ht)
          have hxs := HXB.out x (List.mem_of_getElem? hx)
          have his := HIB.out x (List.mem_of_getElem? hx)
          have HLN : Hid (strK m a (k + 1) = strK m a k ++ (t.name ++ ⟨#[32, 61, 32]⟩ ++ itoaB x ++ ⟨#[10]⟩)) := strK_next m a k x t hx ht
          have HIT : Hid (∀ Y : World, Calls Tryz.prog 23 #[.int .i64 x] Y fun e w' => e = .returned (.string (itoaB x)) ∧ Below Y.heap.size Y w') := fun Y => digits_any x (by omega) Y
          obtain ⟨nm, hnm⟩ : ∃ nm, t.name = nm := ⟨_, rfl⟩
          obtain ⟨ix, hix⟩ : ∃ ix, itoaB x = ix := ⟨_, rfl⟩
          obtain ⟨S, hS⟩ : ∃ S, strK m a k = S := ⟨_, rfl⟩
          rw [hnm] at dn hns HLN
          rw [hix] at his HLN HIT
          rw [hS] at HLN hss ⊢
          have z1 : ¬ (9223372036854775807 < nm.size + 3) := by omega
          have z2 : ¬ (9223372036854775807 < nm.size + 3 + ix.size) := by omega
          have z3 : ¬ (9223372036854775807 < nm.size + 3 + ix.size + 1) := by omega
          have z4 : ¬ (9223372036854775807 < S.size + (nm.size + 3 + ix.size + 1)) := by omega
          have p1 : (k : Int) < (m.vars.length : Int) := by omega
          have p2 : k < m.vars.length := by omega
          have p3 : decide ((k : Int) < (m.vars.length : Int)) = true := by simpa using p1
          have p4 : decide ((k : Int) < (a.values.length : Int)) = true := by simp; omega
          clear hx ht hnm hix hS cn cx hns his hss
          go_wp2_with fail
          go_region_law
            (first
              | (rw [if_pos (by rfl)]; go_simp; go_at_call 23; refine (HIT.out _).mono ?_; rintro e w3 ⟨rfl, hb3⟩; have hB3 : Below wr.heap.size wr w3 := (Below.refl _ _).drew.trans hb3; have dn3 := (hB3.cell (p := ⟨bn, on + k * 3, none⟩) ln).trans dn; have k03 := (hB3.cell (p := ⟨w.heap.size, 0, none⟩) kl).trans k0; have kl3 : w.heap.size < w3.heap.size := Nat.lt_of_lt_of_le kl hB3.size; have ln3 : bn < w3.heap.size := Nat.lt_of_lt_of_le ln hB3.size; dsimp only))
          all_goals
            have HB3 := (show Hid _ from HB.out.trans (hB3.mono hsz))
            go_wp2
            go_roundw
            case rel => exact ⟨k + 1, by omega, by go_num, by rw [HLN.out], HB3.out⟩
            case measure => simp [intOf]; omega
        · have hke : k = a.values.length := by omega
          have p4 : decide ((k : Int) < (a.values.length : Int)) = false := by simp; omega
          have HK : Hid (strK m a k = R) := by show _ = _; rw [hke]; exact HE.out
          rw [HK.out]
          clear hke hss
          go_wp2
          go_ret
          exact ⟨rfl, HW.out⟩
  · have h1' : (a.verdict == 1) = false := by simpa using h1
    by_cases h2 : a.verdict = 2
    · have hR : tellB m a = ⟨#[110, 111, 110, 101, 10]⟩ := by unfold tellB; rw [if_pos h2]
      rw [hR, h2]
      clear hR h1' h3 h1 h2
      go_enter Tryz.func24, Tryz.ntmps24
      go_wp2
      go_ret
      exact ⟨rfl, (below_alloc _ _).alloc (by simp) _⟩
    · have h3' : a.verdict = 3 := by omega
      have hR : tellB m a = ⟨#[117, 110, 107, 110, 111, 119, 110, 10]⟩ := by unfold tellB; rw [if_neg h2, if_pos h3']
      rw [hR, h3']
      clear hR h1' h3 h3' h1 h2
      go_enter Tryz.func24, Tryz.ntmps24
      go_wp2
      go_ret
      exact ⟨rfl, (below_alloc _ _).alloc (by simp) _⟩
end Go.Proofs.YtdjbejlbmaiocagGreatDoor
/-
  PLAIN: what is answered, and verified, of two()'s text.
-/
namespace Go.Proofs.YtdjbejlbmaiocagGreatDoor

def smallB : ByteArray := ⟨([118, 97, 114, 32, 120, 58, 32, 48, 46, 46, 50, 59, 10, 118, 97, 114, 32, 121, 58, 32, 48, 46, 46, 50, 59, 10, 99, 111, 110, 32, 108, 101, 32].append [91, 49, 44, 32, 45, 49, 93, 32, 91, 120, 44, 32, 121, 93, 32, 45, 49, 59, 10, 115, 111, 108, 118, 101, 32, 108, 101, 97, 115, 116, 32, 121, 59, 10]).toArray⟩
theorem small_parse : parseA smallB = (twoM, 0, 0) := by kernel_rfl
def saidB : ByteArray := ⟨#[98, 101, 115, 116, 10, 120, 32, 61, 32, 48, 10, 121, 32, 61, 32, 49, 10]⟩
theorem small_tell (P : List MStep) : tellB twoM ⟨1, [0, 1], P⟩ = saidB := by
  unfold tellB
  rw [if_neg (show ¬ ((1 : Int) = 2) by decide), if_neg (show ¬ ((1 : Int) = 3) by decide)]
  kernel_rfl
theorem small_answer : answerA smallB 20 = (saidB, 0) := by
  obtain ⟨P, hP, _⟩ := bst_all
  unfold answerA
  rw [if_neg (by decide), if_neg (by decide), small_parse, if_pos rfl, hP]
  simp only
  rw [small_tell]
theorem small_verify (P : List MStep) (hP : bestA twoM 20 = (⟨1, [0, 1], P⟩, 0)) : verifyA smallB [0, 1] P = (true, 0) := by
  unfold verifyA
  rw [small_parse, if_pos rfl]
  have := best_verified twoM 20 (by rw [hP]) (Or.inr ⟨by rw [hP], by decide⟩)
  rw [hP] at this
  exact this
theorem all_01 : allA twoM [0, 1] = (true, 0) := by
  unfold allA
  rw [if_pos two_checks]
  kernel_rfl
theorem bst_b1 : betterA twoM [0, 1] = ([⟨1, 1, 0⟩], 0) := by
  unfold betterA
  rw [if_pos two_checks]
  kernel_rfl
theorem small_not (P : List MStep) (hP : bestA twoM 20 = (⟨1, [0, 1], P⟩, 0)) : verifyA smallB [0, 2] P = (false, 0) := by
  unfold verifyA
  rw [small_parse, if_pos rfl]
  have hv : verifyM twoM [0, 1] P = (true, 0) := by
    have := best_verified twoM 20 (by rw [hP]) (Or.inr ⟨by rw [hP], by decide⟩)
    rw [hP] at this
    exact this
  unfold verifyM at hv ⊢
  rw [if_neg (by decide), bst_b1, if_pos rfl] at hv
  rw [if_neg (by decide), bst_b, if_pos rfl]
  simp only at hv ⊢
  -- the steps are right in form
  have hst : stepsE twoM [[⟨1, 1, 0⟩]] P = 0 := by
    apply Classical.byContradiction
    intro hn
    have hp : pcheckA twoM [[⟨1, 1, 0⟩]] P = (false, stepsE twoM [[⟨1, 1, 0⟩]] P) := by unfold pcheckA; rw [if_neg hn]
    rw [hp] at hv
    simp only [Bool.false_eq_true, if_false] at hv
    cases hv
  obtain ⟨e1, e2, _, e4, e5⟩ := stepsE_ok twoM _ P hst
  have hst2 : stepsE twoM [[⟨1, 1, 1⟩]] P = 0 := by
    unfold stepsE at hst ⊢
    rw [if_pos two_checks, if_neg (by omega)] at hst ⊢
    rw [if_pos (show clasE twoM.vars [[⟨1, 1, 0⟩]] = 0 by decide)] at hst
    rw [if_pos (show clasE twoM.vars [[⟨1, 1, 1⟩]] = 0 by decide)]
    exact hst
  cases hb : (pcheckA twoM [[⟨1, 1, 1⟩]] P).1
  · simp only [Bool.false_eq_true, if_false]
    unfold pcheckA at hb ⊢
    rw [if_pos hst2] at hb ⊢
    split
    · rename_i hl
      rw [if_pos hl] at hb
      simp only at hb
      rw [hb]
    · rfl
  · exfalso
    have hpe : pcheckA twoM [[⟨1, 1, 1⟩]] P = (true, 0) := by
      unfold pcheckA at hb ⊢
      rw [if_pos hst2] at hb ⊢
      split
      · rename_i hl
        rw [if_pos hl] at hb
        simp only at hb
        rw [hb]
      · rename_i hl
        rw [if_neg hl] at hb; cases hb
    unfold pcheckA at hpe
    rw [if_pos hst2] at hpe
    by_cases hl : lastB P = true
    · rw [if_pos hl] at hpe
      have hst3 : stepsP twoM ([[⟨1, 1, 1⟩]].map (heldP twoM.vars)) P = true := by simpa using hpe
      unfold lastB at hl
      cases hgl : P.getLast? with
      | none => rw [hgl] at hl; cases hl
      | some s =>
        rw [hgl] at hl
        have hs0 : s.cla = [] := List.length_eq_zero_iff.1 (by simpa using hl)
        exact proof_none twoM [[⟨1, 1, 1⟩]] P [0, 1] all_01 (fun d hd => by rw [List.mem_singleton.1 hd]; decide) e4 e5 (fun d hd => by rw [List.mem_singleton.1 hd]; decide) hst3 s (List.mem_of_getLast? hgl) hs0
    · rw [if_neg hl] at hpe; cases hpe
end Go.Proofs.YtdjbejlbmaiocagGreatDoor
/-
  WALK: what must be in any case, of reports (reportBegun of the laws).
-/
namespace Go.Proofs.YtdjbejlbmaiocagGreatDoor
open Go.RowKit

theorem StOwn.starg {base : Nat} {w : World} {v : Value} {L : List SV} (h : StOwn base w v L) : StArg w v (L.map (·.1)) := by
  obtain ⟨a, c, rfl⟩ := own_form h.1
  have hc : L.length ≤ c ∧ c ≤ maxLen := by
    rcases h.1.2 with ⟨he, _⟩ | ⟨g, cap, cur, he, _, _, k1, k2, _⟩
    · have h1 : L.length = 0 := by injection he
      have h2 : c = 0 := by injection he
      exact ⟨by omega, by unfold maxLen; omega⟩
    · cases he
      exact ⟨k1, k2⟩
  refine ⟨a, c, by rw [List.length_map], by rw [List.length_map]; exact hc, fun i t ht => ?_⟩
  rw [List.getElem?_map] at ht
  obtain ⟨x, hx, rfl⟩ := Option.map_eq_some_iff.1 ht
  obtain ⟨b, off, e1, e2, e3, e4, e5⟩ := st_cell h i x hx
  exact ⟨b, off, x.2, e1, e2, e3, e4, e5, (h.2 x (List.mem_of_getElem? hx)).arg⟩

set_option maxHeartbeats 3200000 in
set_option maxRecDepth 100000 in
theorem begun_report (w : World) (hT : TabT w) (hP : TabP w) :
    Calls Tryz.prog 21 #[] w fun e w' => e = .returned (.bool true) ∧ Below w.heap.size w w' := by
  have HT : Hid (∀ w', Below w.heap.size w w' → TabT w') := fun w' h => hT.below h
  have HTP : Hid (∀ w', Below w.heap.size w w' → TabP w') := fun w' h => hP.below h
  obtain ⟨P, hP1, _⟩ := bst_all
  have HP : Hid (bestA twoM 20 = (⟨1, [0, 1], P⟩, 0)) := hP1
  have HV1 : Hid (verifyA smallB [0, 1] P = (true, 0)) := small_verify P hP1
  have HV2 : Hid (verifyA smallB [0, 2] P = (false, 0)) := small_not P hP1
  have HAN : Hid (∀ Y, Below w.heap.size w Y → Calls Tryz.prog 20 #[.string smallB, .int .i64 20] Y fun e w' => e = .returned (.tuple #[.string (⟨#[98, 101, 115, 116, 10, 120, 32, 61, 32, 48, 10, 121, 32, 61, 32, 49, 10]⟩ : ByteArray), .int .i64 0]) ∧ Below Y.heap.size Y w') := fun Y hY => by
    have := answer_any smallB (by decide) 20 (fun _ => by rw [small_parse]; decide) Y (HT.out _ hY) (HTP.out _ hY)
    rw [small_answer] at this
    exact this
  have HSM : Hid (smallB.size ≤ maxLen) := by show _ ≤ _; decide
  clear hT hP hP1
  go_enter Tryz.func21, Tryz.ntmps21
  go_wp2_with fail
  refine (HAN.out _ (Below.refl _ _)).mono ?_
  rintro e w1 ⟨rfl, hb1⟩
  have HB1 : Hid (Below w.heap.size w w1) := hb1
  clear hb1
  go_wp2_with fail
  refine (two_any _).mono ?_
  rintro e w2 ⟨vs, cs, rfl, hm, hb2⟩
  have HM : Hid (MArg w2 vs cs twoM) := hm
  have HB2 : Hid (Below w.heap.size w w2) := HB1.out.trans (hb2.mono HB1.out.size)
  clear hm hb2
  go_wp2_with fail
  refine (best_any twoM 20 vs cs _ HM.out (HT.out _ HB2.out)).mono ?_
  rintro e w3 ⟨vv, pp, rfl, hq, hb3⟩
  rw [HP.out] at hq ⊢
  dsimp only at hq ⊢
  obtain ⟨L, hst, hLe⟩ := hq.prf
  simp only at hLe
  obtain ⟨av, cv, rfl⟩ := own_form hq.val
  obtain ⟨ap, cp, rfl⟩ := own_form hst.1
  have HV : Hid (∀ Y, Below w3.heap.size w3 Y → IArg Y (.slice av 2 cv) [0, 1]) := fun Y hY => IArg.below hY (own_ilist hq.val)
  have HL : Hid (∀ Y, Below w3.heap.size w3 Y → StArg Y (.slice ap L.length cp) P) := fun Y hY => by
    have h1 := (hst.below hY).starg
    rw [hLe] at h1
    exact h1
  have HB3 : Hid (Below w.heap.size w w3) := HB2.out.trans (hb3.mono HB2.out.size)
  clear hq hb3 hst hLe HM
  have HVE : Hid (∀ (Y : World) (vals : List Int) (v : Value), Below w.heap.size w Y → Below w3.heap.size w3 Y → IArg Y v vals → Calls Tryz.prog 25 #[.string smallB, v, .slice ap L.length cp] Y fun e w' => e = .returned (.tuple #[.bool (verifyA smallB vals P).1, .int .i64 (verifyA smallB vals P).2]) ∧ Below Y.heap.size Y w') := fun Y vals v h1 h2 h3 =>
    verify_any smallB HSM.out vals P v _ Y h3 (HL.out _ h2) (HT.out _ h1)
  go_wp2_with fail
  have hb4 : Below w3.heap.size w3 (w3.alloc (.cells #[.int .i64 1, .slice av 2 cv, .slice ap L.length cp] 29)) := below_alloc _ _
  have hbl4 := heap_alloc_new w3 (.cells #[.int .i64 1, .slice av 2 cv, .slice ap L.length cp] 29)
  have hsz4 : w3.heap.size < (w3.alloc (.cells #[.int .i64 1, .slice av 2 cv, .slice ap L.length cp] 29)).heap.size := by simp
  refine (HVE.out _ [0, 1] _ (HB3.out.trans (hb4.mono HB3.out.size)) hb4 (HV.out _ hb4)).mono ?_
  rintro e w5 ⟨rfl, hb5⟩
  rw [HV1.out]
  dsimp only
  have HQ5 : Hid (w5.heap[w3.heap.size]? = some (.cells #[.int .i64 1, .slice av 2 cv, .slice ap L.length cp] 29)) := (hb5.block _ hsz4).trans hbl4
  have HB35 : Hid (Below w3.heap.size w3 w5) := hb4.trans (hb5.mono hb4.size)
  have HB5 : Hid (Below w.heap.size w w5) := HB3.out.trans (HB35.out.mono HB3.out.size)
  clear hb4 hbl4 hsz4 hb5
  have k2 := blk9 HQ5.out 2 _ rfl
  have kl := (Array.getElem?_eq_some_iff.1 HQ5.out).1
  go_wp2_with fail
  refine (HVE.out _ [0, 2] _ (HB5.out.alloc HB5.out.size _) (HB35.out.alloc HB35.out.size _) (ints_made9 w5 0 2 _ rfl)).mono ?_
  rintro e w6 ⟨rfl, hb6⟩
  rw [HV2.out]
  dsimp only
  have HB6 : Hid (Below w.heap.size w w6) := (HB5.out.alloc HB5.out.size _).trans (hb6.mono (by have := HB5.out.size; simp; omega))
  clear hb6
  go_wp2
  go_ret
  exact ⟨rfl, HB6.out⟩
end Go.Proofs.YtdjbejlbmaiocagGreatDoor
/-
  PLAIN: what the reference's reader of texts does, step by step: where it is (k tokens are taken), what is wrong (er; then nothing goes on).
-/
namespace Go.Proofs.YtdjbejlbmaiocagGreatDoor

structure RP where
  k : Nat
  er : Int
def txR (en : Int) (T : List Tok) (p : RP) : ByteArray := if p.er = 0 then (headT en (T.drop p.k)).text else ByteArray.empty
def wrongR (e : Int) (p : RP) : RP := if p.er = 0 then ⟨p.k, e⟩ else p
def stepR (p : RP) : RP := ⟨p.k + 1, p.er⟩
def needR (en : Int) (T : List Tok) (s : ByteArray) (p : RP) : RP := if p.er = 0 then (if ((txR en T p).toList == s.toList) = true then stepR p else wrongR 1 p) else p
def wordR (en : Int) (T : List Tok) (p : RP) : List ByteArray → Nat → Int × RP
  | [], _ => (0, wrongR 1 p)
  | s :: r, i => if p.er = 0 ∧ ((txR en T p).toList == s.toList) = true then ((i : Int), stepR p) else wordR en T p r (i + 1)
def vAtR (s : ByteArray) (p : RP) : List ByteArray → Nat → Int × RP
  | [], _ => (0, wrongR 5 p)
  | n :: r, i => if (n.toList == s.toList) = true then ((i : Int), stepR p) else vAtR s p r (i + 1)
def vR (en : Int) (T : List Tok) (nm : List ByteArray) (p : RP) : Int × RP := if isNameB (txR en T p) then vAtR (txR en T p) p nm 0 else (0, wrongR 1 p)
def dig0 (s : ByteArray) : Bool := match s.data.toList with | [] => false | c :: _ => isD c
def noNumR (neg : Bool) (s : ByteArray) : Bool := !dig0 s || (neg && (s.toList == [48]))
def kEndR (en : Int) (T : List Tok) (neg : Bool) (p : RP) : Int × RP :=
  if noNumR neg (txR en T p) = true then (0, wrongR 1 p) else ((if neg then -1 else 1) * digV (txR en T p).data.toList, stepR p)
def kR (en : Int) (T : List Tok) (p : RP) : Int × RP :=
  if ((txR en T p).toList == [45]) = true then kEndR en T true (needR en T ⟨#[45]⟩ p) else kEndR en T false p
def more1R (en : Int) (T : List Tok) (p : RP) : Bool × RP :=
  if ((txR en T (needR en T ⟨#[91]⟩ p)).toList == [93]) = true then (false, needR en T ⟨#[93]⟩ (needR en T ⟨#[91]⟩ p)) else (decide ((needR en T ⟨#[91]⟩ p).er = 0), needR en T ⟨#[91]⟩ p)
def more2R (en : Int) (T : List Tok) (p : RP) : Bool × RP :=
  if ((txR en T p).toList == [44]) = true then (true, needR en T ⟨#[44]⟩ p) else (false, needR en T ⟨#[93]⟩ p)
def loopR {α : Type} (en : Int) (T : List Tok) (item : RP → α × RP) : Nat → List α → Bool × RP → List α × RP
  | 0, acc, q => (acc, q.2)
  | f + 1, acc, q => if q.1 = true then loopR en T item f (acc ++ [(item q.2).1]) (more2R en T (item q.2).2) else (acc, q.2)
def listR {α : Type} (en : Int) (T : List Tok) (item : RP → α × RP) (p : RP) : List α × RP := loopR en T item (T.length + 2) [] (more1R en T p)
def litR (en : Int) (T : List Tok) (nm : List ByteArray) (p : RP) : MLit × RP :=
  (⟨(vR en T nm p).1, 1 + (wordR en T (vR en T nm p).2 opWL.tail 0).1, (kR en T (wordR en T (vR en T nm p).2 opWL.tail 0).2).1⟩, (kR en T (wordR en T (vR en T nm p).2 opWL.tail 0).2).2)

/-- How a step of the reference's stands to one of the program's. -/
def Agrees {α : Type} (en : Int) (T : List Tok) (q : α × RP) (r : PR α) : Prop :=
  match r with
  | .ok x l => q.2.er = 0 ∧ T.drop q.2.k = l ∧ q.2.k ≤ T.length ∧ q.1 = x
  | .bad pl e => q.2.er = e ∧ e ≠ 0 ∧ (headT en (T.drop q.2.k)).place = pl ∧ q.2.k ≤ T.length
/-- A reader's part that stays where something is wrong. -/
def Still {α : Type} (f : RP → α × RP) : Prop := ∀ p, p.er ≠ 0 → (f p).2 = p
theorem wrong_still (e : Int) (p : RP) (h : p.er ≠ 0) : wrongR e p = p := by unfold wrongR; rw [if_neg h]
theorem need_still (en : Int) (T : List Tok) (s : ByteArray) (p : RP) (h : p.er ≠ 0) : needR en T s p = p := by unfold needR; rw [if_neg h]
theorem tx_still (en : Int) (T : List Tok) (p : RP) (h : p.er ≠ 0) : txR en T p = ByteArray.empty := by unfold txR; rw [if_neg h]
theorem word_still (en : Int) (T : List Tok) (p : RP) (h : p.er ≠ 0) : ∀ (ws : List ByteArray) (i : Nat), (wordR en T p ws i).2 = p
  | [], i => by unfold wordR; exact wrong_still 1 p h
  | s :: r, i => by unfold wordR; rw [if_neg (fun hq => h hq.1)]; exact word_still en T p h r (i + 1)
theorem namex_empty : isNameB ByteArray.empty = false := by decide +kernel
theorem v_still (en : Int) (T : List Tok) (nm : List ByteArray) : Still (vR en T nm) := fun p h => by
  unfold vR
  rw [tx_still en T p h, namex_empty]
  exact wrong_still 1 p h
theorem kEnd_still (en : Int) (T : List Tok) (neg : Bool) : Still (kEndR en T neg) := fun p h => by
  unfold kEndR
  rw [tx_still en T p h, if_pos (by unfold noNumR; rfl)]
  exact wrong_still 1 p h
theorem k_still (en : Int) (T : List Tok) : Still (kR en T) := fun p h => by
  unfold kR
  rw [tx_still en T p h, if_neg (by decide +kernel)]
  exact kEnd_still en T false p h
theorem more1_still (en : Int) (T : List Tok) (p : RP) (h : p.er ≠ 0) : more1R en T p = (false, p) := by
  unfold more1R
  rw [need_still en T _ p h, tx_still en T p h, if_neg (by decide +kernel)]
  simp [h]
theorem more2_still (en : Int) (T : List Tok) (p : RP) (h : p.er ≠ 0) : more2R en T p = (false, p) := by
  unfold more2R
  rw [tx_still en T p h, if_neg (by decide +kernel), need_still en T _ p h]
theorem list_still {α : Type} (en : Int) (T : List Tok) (item : RP → α × RP) : Still (listR en T item) := fun p h => by
  unfold listR
  rw [more1_still en T p h]
  unfold loopR
  rfl
theorem lit_still (en : Int) (T : List Tok) (nm : List ByteArray) : Still (litR en T nm) := fun p h => by
  unfold litR
  dsimp only
  rw [v_still en T nm p h, word_still en T p h]
  exact k_still en T p h
end Go.Proofs.YtdjbejlbmaiocagGreatDoor
