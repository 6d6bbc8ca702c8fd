/-
  WALK: package model: All.
-/
import Derived.Test.YtggkbhafbhhhhadGreatModQ2
namespace Go.Proofs.YtggkbhafbhhhhadGreat
open Go.RowKit

set_option maxHeartbeats 1600000 in
set_option maxRecDepth 100000 in
theorem mall_any (m : Mod) (vals : List Int) (vs cs v : Value) (w : World) (hm : MArg w vs cs m) (hv : IArg w v vals) :
    Calls Tryz.prog 16 #[modV vs cs m, v] w fun e w' => e = .returned (.tuple #[.bool (allA m vals).1, .int .i64 (allA m vals).2]) ∧ Below w.heap.size w w' := by
  have HMA : Hid (∀ w' : World, Below w.heap.size w w' → MArg w' vs cs m) := fun w' h => MArg.below h hm
  have HVA : Hid (∀ w' : World, Below w.heap.size w w' → IArg w' v vals) := fun w' h => IArg.below h hv
  obtain ⟨⟨a1, c1, rfl, hl1, hr1⟩, ⟨a2, c2, rfl, hl2, hr2⟩⟩ := hm
  obtain ⟨a3, c3, rfl, hl3, hr3⟩ := hv
  have HV1 : Hid (∀ (i : Nat) (t : MVar), m.vars[i]? = some t → t.name.size ≤ maxLen ∧ ∃ b off, a1 = some ⟨b, off, none⟩ ∧ b < w.heap.size ∧
    w.cell? ⟨b, off + i * 3, none⟩ = some (.string t.name) ∧ w.cell? ⟨b, off + i * 3 + 1, none⟩ = some (.int .i64 t.lo) ∧ w.cell? ⟨b, off + i * 3 + 2, none⟩ = some (.int .i64 t.hi)) := hr1
  have HC : Hid (∀ (i : Nat) (t : MCon), m.cons[i]? = some t → ∃ b off vv vc vr vl, a2 = some ⟨b, off, none⟩ ∧ b < w.heap.size ∧
    w.cell? ⟨b, off + i * 6, none⟩ = some (.int .i64 t.kind) ∧ w.cell? ⟨b, off + i * 6 + 1, none⟩ = some vv ∧ w.cell? ⟨b, off + i * 6 + 2, none⟩ = some vc ∧
    w.cell? ⟨b, off + i * 6 + 3, none⟩ = some (.int .i64 t.n) ∧ w.cell? ⟨b, off + i * 6 + 4, none⟩ = some vr ∧ w.cell? ⟨b, off + i * 6 + 5, none⟩ = some vl ∧ KArg w vv vc vr vl t) := hr2
  have HV : Hid (∀ (i : Nat) (z : Int), vals[i]? = some z → ∃ b off, a3 = some ⟨b, off, none⟩ ∧ b < w.heap.size ∧ w.cell? ⟨b, off + i, none⟩ = some (.int .i64 z)) := hr3
  unfold maxLen at hl1 hl2 hl3
  obtain ⟨hl11, hl1⟩ := hl1
  obtain ⟨hl21, hl2⟩ := hl2
  obtain ⟨hl31, hl3⟩ := hl3
  obtain ⟨R, hR⟩ : ∃ R, allA m vals = R := ⟨_, rfl⟩
  rw [hR]
  obtain ⟨er, her⟩ : ∃ er, checkM m = er := ⟨_, rfl⟩
  have HER : Hid (checkM m = er) := her
  have HE : Hid (R = if er = 0 then
    (if vals.length = m.vars.length then ((m.vars.zip vals).all (fun p => insideV p.1 p.2) && m.cons.all (fun c => holdsC c vals), 0) else (false, 1))
    else (false, er)) := by rw [← hR, ← her]; rfl
  clear hR her hr1 hr2 hr3
  unfold modV
  go_enter Tryz.func16, Tryz.ntmps16
  go_wp2_with fail
  refine (check_model m (.slice a1 m.vars.length c1) (.slice a2 m.cons.length c2) _ ?_).mono ?_
  · exact HMA.out _ (below_alloc _ _)
  rintro e w1 ⟨rfl, hb1⟩
  rw [HER.out]
  have d0 : w1.cell? ⟨w.heap.size, 0, none⟩ = some (.slice a1 m.vars.length c1) := (hb1.cell (by simp)).trans (by simp)
  have d1 : w1.cell? ⟨w.heap.size, 1, none⟩ = some (.slice a2 m.cons.length c2) := (hb1.cell (by simp)).trans (by simp)
  have HD1 : Hid (w1.cell? ⟨w.heap.size, 1, none⟩ = some (.slice a2 m.cons.length c2)) := d1
  have hs1 : w.heap.size + 1 ≤ w1.heap.size := by simpa using hb1.size
  have HB1 : Hid (Below w.heap.size w w1) := (below_alloc _ _).trans (hb1.mono (by simp))
  clear hb1
  by_cases he : er = 0
  · subst he
    by_cases hl : vals.length = m.vars.length
    · have g0 : ((vals.length : Int) != (m.vars.length : Int)) = false := by simp [hl]
      have HL : Hid (vals.length = m.vars.length) := hl
      have HE2 : Hid (R = ((m.vars.zip vals).all (fun p => insideV p.1 p.2) && m.cons.all (fun c => holdsC c vals), 0)) := by rw [HE.out, if_pos rfl, if_pos hl]; rfl
      clear hl
      go_wp2_with fail
      go_loopw [25] (fun i wr => ∃ k : Nat, k ≤ m.vars.length ∧ i = .int .i64 k ∧ Hid (((m.vars.zip vals).take k).all (fun p => insideV p.1 p.2) = true) ∧ Below w1.heap.size w1 wr) (fun i _ => m.vars.length - (intOf i).toNat)
      case atStart => exact ⟨0, by omega, rfl, rfl, Below.refl _ _⟩
      case round =>
        obtain ⟨k, hk, rfl, hall, hbw⟩ := hrel
        have HBW : Hid (Below w.heap.size w wr) := HB1.out.trans (hbw.mono (by omega))
        have HBW1 : Hid (Below w1.heap.size w1 wr) := hbw
        by_cases hlt : k < m.vars.length
        · have hlt' : k < vals.length := by rw [HL.out]; exact hlt
          obtain ⟨x, hx⟩ : ∃ x, vals[k]? = some x := ⟨vals[k], by simp [hlt']⟩
          obtain ⟨t, ht⟩ : ∃ t, m.vars[k]? = some t := ⟨m.vars[k], by simp [hlt]⟩
          have HG : Hid ((m.vars.zip vals)[k]? = some (t, x)) := by show _ = _; rw [List.getElem?_zip_eq_some]; exact ⟨ht, hx⟩
          obtain ⟨b, off, rfl, hb, e0⟩ := HV.out k x hx
          obtain ⟨_, b', off', rfl, hb', f0, f1, f2⟩ := HV1.out k t ht
          have e1 := (HBW.out.cell (p := ⟨b, off + k, none⟩) hb).trans e0
          have k0 := (HBW.out.cell (p := ⟨b', off' + k * 3, none⟩) hb').trans f0
          have k1 := (HBW.out.cell (p := ⟨b', off' + k * 3 + 1, none⟩) hb').trans f1
          have k2 := (HBW.out.cell (p := ⟨b', off' + k * 3 + 2, none⟩) hb').trans f2
          have hbr : b < wr.heap.size := Nat.lt_of_lt_of_le hb HBW.out.size
          clear hx ht e0 f0 f1 f2 hb hb' hbw
          by_cases q1 : x < t.lo
          · have HN : Hid (R = (false, 0)) := by
              have := all_hit (fun p : MVar × Int => insideV p.1 p.2) (m.vars.zip vals) k (t, x) HG.out (by simp [insideV, q1])
              rw [HE2.out, this]; rfl
            have q2 : decide (x < t.lo) = true := decide_eq_true q1
            go_wp2
            go_quiet (fail)
            go_wp2
            go_ret2
            exact ⟨by rw [HN.out]; rfl, below_drewN (HBW.out.trans ((below_alloc _ _).mono HBW.out.size)) _⟩
          · have q2 : decide (x < t.lo) = false := decide_eq_false q1
            by_cases q3 : t.hi < x
            · have HN : Hid (R = (false, 0)) := by
                have := all_hit (fun p : MVar × Int => insideV p.1 p.2) (m.vars.zip vals) k (t, x) HG.out (by simp [insideV, q3])
                rw [HE2.out, this]; rfl
              clear q1
              go_wp2
              go_quiet (fail)
              go_wp2
              go_ret2
              exact ⟨by rw [HN.out]; rfl, below_drewN (HBW.out.trans ((below_alloc _ _).mono HBW.out.size)) _⟩
            · have HN : Hid (((m.vars.zip vals).take (k + 1)).all (fun p => insideV p.1 p.2) = true) := all_next (fun p : MVar × Int => insideV p.1 p.2) (m.vars.zip vals) k (t, x) HG.out hall.out (by simp [insideV]; omega)
              have q4 : decide (t.hi < x) = false := decide_eq_false q3
              clear q1 q3
              go_wp2
              go_quiet (fail)
              go_wp2
              go_roundw
              case rel => exact ⟨k + 1, by omega, by go_num, HN, below_drewN (HBW1.out.alloc HBW1.out.size _) _⟩
              case measure => simp [intOf]; omega
        · have HA : Hid ((m.vars.zip vals).all (fun p => insideV p.1 p.2) = true) := all_end _ _ k (by rw [List.length_zip, HL.out]; omega) hall.out
          have HE3 : Hid (R = (m.cons.all (fun c => holdsC c vals), 0)) := by rw [HE2.out, HA.out, Bool.true_and]; rfl
          have HBD : Hid (∀ x ∈ vals, -50 ≤ x ∧ x ≤ 50) := by
            intro x hx
            obtain ⟨i, hi⟩ := List.mem_iff_getElem?.1 hx
            have hil : i < m.vars.length := by rw [← HL.out]; exact (List.getElem?_eq_some_iff.1 hi).1
            have ht : m.vars[i]? = some m.vars[i] := by simp [hil]
            have hvo := var_ok m HER.out i _ ht
            have := List.all_eq_true.1 HA.out (m.vars[i], x) (List.mem_of_getElem? (i := i) (by rw [List.getElem?_zip_eq_some]; exact ⟨ht, hi⟩))
            simp [insideV] at this
            omega
          have e1 : wr.cell? ⟨w.heap.size, 1, none⟩ = some (.slice a2 m.cons.length c2) := (hbw.cell (p := ⟨w.heap.size, 1, none⟩) (by simp only; omega)).trans d1
          obtain ⟨wo, rfl⟩ : ∃ wo : World, wo = wr := ⟨_, rfl⟩
          go_wp2
          clear hk hall hbw hlt e1
          go_loopw [50] (fun i wr => ∃ k : Nat, k ≤ m.cons.length ∧ i = .int .i64 k ∧ Hid ((m.cons.take k).all (fun c => holdsC c vals) = true) ∧ Below w.heap.size w wr) (fun i _ => m.cons.length - (intOf i).toNat)
          case atStart => exact ⟨0, by omega, rfl, rfl, HBW.out⟩
          case round =>
            obtain ⟨j, hj, rfl, hall, hbw⟩ := hrel
            have HBR : Hid (Below w.heap.size w wr) := hbw
            clear hbw
            by_cases hlt : j < m.cons.length
            · obtain ⟨c, hc⟩ : ∃ c, m.cons[j]? = some c := ⟨m.cons[j], by simp [hlt]⟩
              have HCC : Hid (m.cons[j]? = some c) := hc
              obtain ⟨b, off, vv, vc, vr, vl, ha, hb, f0, f1, f2, f3, f4, f5, hka⟩ := HC.out j c hc
              subst ha
              have e0 := (HBR.out.cell (p := ⟨b, off + j * 6, none⟩) hb).trans f0
              have e1 := (HBR.out.cell (p := ⟨b, off + j * 6 + 1, none⟩) hb).trans f1
              have e2 := (HBR.out.cell (p := ⟨b, off + j * 6 + 2, none⟩) hb).trans f2
              have e3 := (HBR.out.cell (p := ⟨b, off + j * 6 + 3, none⟩) hb).trans f3
              have e4 := (HBR.out.cell (p := ⟨b, off + j * 6 + 4, none⟩) hb).trans f4
              have e5 := (HBR.out.cell (p := ⟨b, off + j * 6 + 5, none⟩) hb).trans f5
              have HK : Hid (KArg wr vv vc vr vl c) := KArg.below HBR.out hka
              have HCE : Hid (conE vals.length c = 0) := by rw [HL.out]; exact con_ok m HER.out j c hc
              obtain ⟨⟨q1, r1, rfl, _, _⟩, ⟨q2, r2, rfl, _, _⟩, ⟨q3, r3, rfl, _, _⟩, ⟨q4, r4, rfl, _, _⟩⟩ := hka
              clear hc f0 f1 f2 f3 f4 f5 hb
              cases hq : holdsC c vals
              · have HN : Hid (R = (false, 0)) := by rw [HE3.out, all_hit (fun c => holdsC c vals) m.cons j c HCC.out hq]; rfl
                go_wp2_with fail
                refine (holds_any c vals _ _ _ _ _ _ (KArg.below (below_alloc _ _) HK.out) (HVA.out _ (HBR.out.trans ((below_alloc _ _).mono HBR.out.size))) HCE.out HBD.out).mono ?_
                rintro e w2 ⟨rfl, hb2⟩
                rw [hq]
                have hb3 : Below w.heap.size w w2 := (HBR.out.trans ((below_alloc _ _).mono HBR.out.size)).trans (hb2.mono (by have := HBR.out.size; simp; omega))
                clear hb2 hq
                go_wp2
                go_ret2
                exact ⟨by rw [HN.out]; rfl, hb3⟩
              · have HN : Hid ((m.cons.take (j + 1)).all (fun c => holdsC c vals) = true) := all_next (fun c => holdsC c vals) m.cons j c HCC.out hall.out hq
                go_wp2_with fail
                refine (holds_any c vals _ _ _ _ _ _ (KArg.below (below_alloc _ _) HK.out) (HVA.out _ (HBR.out.trans ((below_alloc _ _).mono HBR.out.size))) HCE.out HBD.out).mono ?_
                rintro e w2 ⟨rfl, hb2⟩
                rw [hq]
                have hb3 : Below w.heap.size w w2 := (HBR.out.trans ((below_alloc _ _).mono HBR.out.size)).trans (hb2.mono (by have := HBR.out.size; simp; omega))
                clear hb2 hq
                go_wp2
                go_roundw
                case rel => exact ⟨j + 1, by omega, by go_num, HN, hb3⟩
                case measure => simp [intOf]; omega
            · have HN : Hid (R = (true, 0)) := by rw [HE3.out, all_end _ m.cons j hlt hall.out]; rfl
              go_wp2
              go_ret2
              exact ⟨by rw [HN.out]; rfl, HBR.out⟩
    · have g0 : ((vals.length : Int) != (m.vars.length : Int)) = true := by simp; omega
      have HN : Hid (R = (false, 1)) := by rw [HE.out, if_pos rfl, if_neg hl]; rfl
      clear hl
      go_wp2
      go_ret2
      exact ⟨by rw [HN.out]; rfl, HB1.out⟩
  · have HN : Hid (R = (false, er)) := by rw [HE.out, if_neg he]; rfl
    have he2 : (er != 0) = true := by simpa using he
    clear he
    go_wp2
    go_ret2
    exact ⟨by rw [HN.out]; rfl, HB1.out⟩
end Go.Proofs.YtggkbhafbhhhhadGreat
