/-
  WALK: package model: Holds.
-/
import Derived.Test.YtggkbhafbhhhhadGreatModQ
namespace Go.Proofs.YtggkbhafbhhhhadGreat
open Go.RowKit

set_option maxHeartbeats 1600000 in
set_option maxRecDepth 100000 in
theorem mholds_any (m : Mod) (con : Int) (vals : List Int) (vs cs v : Value) (w : World) (hm : MArg w vs cs m) (hv : IArg w v vals) :
    Calls Tryz.prog 36 #[modV vs cs m, .int .i64 con, v] w fun e w' => e = .returned (.tuple #[.bool (holdsA m con vals).1, .int .i64 (holdsA m con vals).2]) ∧ Below w.heap.size w w' := by
  have HMA : Hid (∀ w' : World, Below w.heap.size w w' → MArg w' vs cs m) := fun w' h => MArg.below h hm
  have HVA : Hid (∀ w' : World, Below w.heap.size w w' → IArg w' v vals) := fun w' h => IArg.below h hv
  obtain ⟨⟨a1, c1, rfl, _, _⟩, ⟨a2, c2, rfl, hl2, hr2⟩⟩ := hm
  obtain ⟨a3, c3, rfl, hl3, hr3⟩ := hv
  have HC : Hid (∀ (i : Nat) (t : MCon), m.cons[i]? = some t → ∃ b off vv vc vr vl, a2 = some ⟨b, off, none⟩ ∧ b < w.heap.size ∧
    w.cell? ⟨b, off + i * 6, none⟩ = some (.int .i64 t.kind) ∧ w.cell? ⟨b, off + i * 6 + 1, none⟩ = some vv ∧ w.cell? ⟨b, off + i * 6 + 2, none⟩ = some vc ∧
    w.cell? ⟨b, off + i * 6 + 3, none⟩ = some (.int .i64 t.n) ∧ w.cell? ⟨b, off + i * 6 + 4, none⟩ = some vr ∧ w.cell? ⟨b, off + i * 6 + 5, none⟩ = some vl ∧ KArg w vv vc vr vl t) := hr2
  have HV : Hid (∀ (i : Nat) (z : Int), vals[i]? = some z → ∃ b off, a3 = some ⟨b, off, none⟩ ∧ b < w.heap.size ∧ w.cell? ⟨b, off + i, none⟩ = some (.int .i64 z)) := hr3
  unfold maxLen at hl2 hl3
  obtain ⟨hl21, hl2⟩ := hl2
  obtain ⟨hl31, hl3⟩ := hl3
  obtain ⟨R, hR⟩ : ∃ R, holdsA m con vals = R := ⟨_, rfl⟩
  rw [hR]
  obtain ⟨er, her⟩ : ∃ er, conCheck m con = er := ⟨_, rfl⟩
  have HER : Hid (conCheck m con = er) := her
  have HE : Hid (R = if er = 0 then
    (if vals.length = m.vars.length then (if vals.all (fun x => inB x 50) then (holdsC (m.cons.getD con.toNat noCon) vals, 0) else (false, 3)) else (false, 1))
    else (false, er)) := by rw [← hR, ← her]; rfl
  clear hR her hr2 hr3
  unfold modV
  go_enter Tryz.func36, Tryz.ntmps36
  go_wp2_with fail
  refine (check_con m con (.slice a1 m.vars.length c1) (.slice a2 m.cons.length c2) _ ?_).mono ?_
  · exact HMA.out _ (below_alloc _ _)
  rintro e w1 ⟨rfl, hb1⟩
  rw [HER.out]
  have d0 : w1.cell? ⟨w.heap.size, 0, none⟩ = some (.slice a1 m.vars.length c1) := (hb1.cell (by simp)).trans (by simp)
  have d1 : w1.cell? ⟨w.heap.size, 1, none⟩ = some (.slice a2 m.cons.length c2) := (hb1.cell (by simp)).trans (by simp)
  have HB1 : Hid (Below w.heap.size w w1) := (below_alloc _ _).trans (hb1.mono (by simp))
  clear hb1
  by_cases he : er = 0
  · subst he
    obtain ⟨o1, o2, o3⟩ := conCheck_ok m con HER.out
    by_cases hl : vals.length = m.vars.length
    · have g0 : ((vals.length : Int) != (m.vars.length : Int)) = false := by simp [hl]
      have HL : Hid (vals.length = m.vars.length) := hl
      have HE2 : Hid (R = if vals.all (fun x => inB x 50) then (holdsC (m.cons.getD con.toNat noCon) vals, 0) else (false, 3)) := by rw [HE.out, if_pos rfl, if_pos hl]; rfl
      have HO1 : Hid (checkM m = 0) := o1
      clear hl o1
      go_wp2_with fail
      go_loop [25] (fun i => ∃ k : Nat, k ≤ vals.length ∧ i = .int .i64 k ∧ Hid ((vals.take k).all (fun x => inB x 50) = true)) (fun i => vals.length - (intOf i).toNat)
      case atStart => exact ⟨0, by omega, rfl, rfl⟩
      case round =>
        obtain ⟨k, hk, rfl, hall⟩ := hrel
        by_cases hlt : k < vals.length
        · obtain ⟨x, hx⟩ : ∃ x, vals[k]? = some x := ⟨vals[k], by simp [hlt]⟩
          obtain ⟨b, off, rfl, hb, e0⟩ := HV.out k x hx
          have e1 := (HB1.out.cell (p := ⟨b, off + k, none⟩) hb).trans e0
          have HX : Hid (vals[k]? = some x) := hx
          clear hx e0 hb
          cases hq : inB x 50
          · have HN : Hid (R = (false, 3)) := by rw [HE2.out, all_hit (fun x => inB x 50) vals k x HX.out hq]; rfl
            go_wp2_with fail
            refine (within_any _ 50 (by omega) (by omega) _).mono ?_
            rintro e w1 ⟨rfl, rfl⟩
            rw [hq]
            clear hq
            go_wp2
            go_ret2
            exact ⟨by rw [HN.out]; rfl, HB1.out⟩
          · have HN : Hid ((vals.take (k + 1)).all (fun x => inB x 50) = true) := all_next (fun x => inB x 50) vals k x HX.out hall.out hq
            go_wp2_with fail
            refine (within_any _ 50 (by omega) (by omega) _).mono ?_
            rintro e w1 ⟨rfl, rfl⟩
            rw [hq]
            clear hq
            go_wp2
            go_round
            case rel => exact ⟨k + 1, by omega, by go_num, HN⟩
            case measure => simp [intOf]; omega
        · have HA : Hid (vals.all (fun x => inB x 50) = true) := all_end _ vals k hlt hall.out
          obtain ⟨j, rfl⟩ : ∃ j : Nat, con = (j : Int) := ⟨con.toNat, by omega⟩
          have hjl : j < m.cons.length := by omega
          obtain ⟨c, hc⟩ : ∃ c, m.cons[j]? = some c := ⟨m.cons[j], by simp [hjl]⟩
          have HN : Hid (R = (holdsC c vals, 0)) := by
            rw [HE2.out, HA.out, if_pos rfl, Int.toNat_natCast, List.getD_eq_getElem?_getD, hc]; rfl
          obtain ⟨b, off, vv, vc, vr, vl, ha, hb, f0, f1, f2, f3, f4, f5, hka⟩ := HC.out j c hc
          subst ha
          have e0 := (HB1.out.cell (p := ⟨b, off + j * 6, none⟩) hb).trans f0
          have e1 := (HB1.out.cell (p := ⟨b, off + j * 6 + 1, none⟩) hb).trans f1
          have e2 := (HB1.out.cell (p := ⟨b, off + j * 6 + 2, none⟩) hb).trans f2
          have e3 := (HB1.out.cell (p := ⟨b, off + j * 6 + 3, none⟩) hb).trans f3
          have e4 := (HB1.out.cell (p := ⟨b, off + j * 6 + 4, none⟩) hb).trans f4
          have e5 := (HB1.out.cell (p := ⟨b, off + j * 6 + 5, none⟩) hb).trans f5
          have HK : Hid (KArg w1 vv vc vr vl c) := KArg.below HB1.out hka
          have HCE : Hid (conE vals.length c = 0) := by rw [HL.out]; exact con_ok m HO1.out j c hc
          have HBD : Hid (∀ x ∈ vals, -50 ≤ x ∧ x ≤ 50) := fun x hx => by
            have := List.all_eq_true.1 HA.out x hx
            simpa [inB] using this
          obtain ⟨⟨q1, r1, rfl, _, _⟩, ⟨q2, r2, rfl, _, _⟩, ⟨q3, r3, rfl, _, _⟩, ⟨q4, r4, rfl, _, _⟩⟩ := hka
          clear hc f0 f1 f2 f3 f4 f5 hb
          go_wp2_with fail
          refine (holds_any c vals _ _ _ _ _ _ HK.out (HVA.out _ HB1.out) HCE.out HBD.out).mono ?_
          rintro e w2 ⟨rfl, hb2⟩
          have hb3 : Below w.heap.size w w2 := HB1.out.trans (hb2.mono HB1.out.size)
          clear hb2
          go_wp2
          go_ret2
          exact ⟨by rw [HN.out]; rfl, hb3⟩
    · have g0 : ((vals.length : Int) != (m.vars.length : Int)) = true := by simp; omega
      have HN : Hid (R = (false, 1)) := by rw [HE.out, if_pos rfl, if_neg hl]; rfl
      clear hl
      go_wp2
      go_ret2
      exact ⟨by rw [HN.out]; rfl, HB1.out⟩
  · have HN : Hid (R = (false, er)) := by rw [HE.out, if_neg he]; rfl
    have he2 : (er != 0) = true := by simpa using he
    clear he
    go_wp2
    go_ret2
    exact ⟨by rw [HN.out]; rfl, HB1.out⟩
end Go.Proofs.YtggkbhafbhhhhadGreat
