/-
  WALKS: package model: constraints.
-/
import Derived.Test.YtggkbhafbhhhhabGreatDoorModB
import Derived.Deep.QuietTactic
import Derived.BigQuiet
namespace Go.Proofs.YtggkbhafbhhhhabGreatDoor
open Go.RowKit

set_option maxHeartbeats 800000 in
set_option maxRecDepth 100000 in
theorem many_any (c : MCon) (vv vc vr vl : Value) (w : World) (hk : KArg w vv vc vr vl c) :
    Calls Tryz.prog 79 #[conV vv vc vr vl c] w fun e w' => e = .returned (.bool (manyB c)) ∧ Below w.heap.size w w' := by
  obtain ⟨⟨a1, c1, rfl, hm1, hr1⟩, ⟨a2, c2, rfl, hm2, hr2⟩, ⟨a3, c3, rfl, hm3, hr3⟩, ⟨a4, c4, rfl, hm4, hr4⟩⟩ := hk
  clear hr1 hr2 hr3 hr4 hm1 hm2 hm3 hm4
  unfold conV manyB
  by_cases h1 : 4 < c.vars.length
  · rw [decide_eq_true h1]
    go_enter Tryz.func79, Tryz.ntmps79
    go_wp2
    go_ret
    exact ⟨ret_bool (by first | (simp; done) | (rw [Bool.eq_iff_iff]; simp; omega)), below_alloc _ _⟩
  · rw [decide_eq_false h1]
    by_cases h2 : 4 < c.lits.length
    · rw [decide_eq_true h2]
      go_enter Tryz.func79, Tryz.ntmps79
      go_wp2
      go_ret
      exact ⟨ret_bool (by first | (simp; done) | (rw [Bool.eq_iff_iff]; simp; omega)), below_alloc _ _⟩
    · rw [decide_eq_false h2]
      by_cases h3 : 8 < c.consts.length
      · rw [decide_eq_true h3]
        go_enter Tryz.func79, Tryz.ntmps79
        go_wp2
        go_ret
        exact ⟨ret_bool (by first | (simp; done) | (rw [Bool.eq_iff_iff]; simp; omega)), below_alloc _ _⟩
      · rw [decide_eq_false h3]
        go_enter Tryz.func79, Tryz.ntmps79
        go_wp2
        go_ret
        exact ⟨ret_bool (by first | (simp; done) | (rw [Bool.eq_iff_iff]; simp; omega)), below_alloc _ _⟩

set_option maxHeartbeats 800000 in
set_option maxRecDepth 100000 in
theorem vars_any (c : MCon) (n : Int) (vv vc vr vl : Value) (w : World) (hk : KArg w vv vc vr vl c) :
    Calls Tryz.prog 81 #[conV vv vc vr vl c, .int .i64 n] w fun e w' => e = .returned (.bool (varsB c n)) ∧ Below w.heap.size w w' := by
  obtain ⟨⟨a1, c1, rfl, hm1, hr1⟩, _, _, ⟨a4, c4, rfl, hm4, hr4⟩⟩ := hk
  have HI : Hid (∀ (i : Nat) (z : Int), c.vars[i]? = some z → ∃ b off, a1 = some ⟨b, off, none⟩ ∧ b < w.heap.size ∧ w.cell? ⟨b, off + i, none⟩ = some (.int .i64 z)) := hr1
  have HL : Hid (∀ (i : Nat) (t : MLit), c.lits[i]? = some t → ∃ b off, a4 = some ⟨b, off, none⟩ ∧ b < w.heap.size ∧
    w.cell? ⟨b, off + i * 3, none⟩ = some (.int .i64 t.var) ∧ w.cell? ⟨b, off + i * 3 + 1, none⟩ = some (.int .i64 t.op) ∧ w.cell? ⟨b, off + i * 3 + 2, none⟩ = some (.int .i64 t.n)) := hr4
  obtain ⟨R, hR⟩ : ∃ R, varsB c n = R := ⟨_, rfl⟩
  rw [hR]
  have HE : Hid (R = (c.vars.all (fun v => isVarB v n) && c.lits.all (fun l => isVarB l.var n))) := by rw [← hR]; rfl
  unfold maxLen at hm1 hm4
  obtain ⟨hm11, hm1⟩ := hm1
  obtain ⟨hm41, hm4⟩ := hm4
  clear hr1 hr4 hR
  unfold conV
  go_enter Tryz.func81, Tryz.ntmps81
  go_wp2_with fail
  obtain ⟨w0, hw0⟩ : ∃ w0 : World, w0 = w.alloc (.cells #[.int .i64 c.kind, .slice a1 c.vars.length c1, vc, .int .i64 c.n, vr, .slice a4 c.lits.length c4] 54) := ⟨_, rfl⟩
  rw [← hw0]
  have hb0 : Below w.heap.size w w0 := by rw [hw0]; exact below_alloc _ _
  have hc5 : w0.cell? ⟨w.heap.size, 5, none⟩ = some (.slice a4 c.lits.length c4) := by rw [hw0]; simp
  have hs0 : w0.heap.size = w.heap.size + 1 := by rw [hw0]; simp
  have HS0 : Hid (w0.heap.size = w.heap.size + 1) := hs0
  clear hw0 hs0
  go_loopw [12] (fun i wr => ∃ m : Nat, m ≤ c.vars.length ∧ i = .int .i64 m ∧ Hid ((c.vars.take m).all (fun v => isVarB v n) = true) ∧ wr = w0) (fun i _ => c.vars.length - (intOf i).toNat)
  case atStart => exact ⟨0, by omega, rfl, rfl, rfl⟩
  case round =>
    obtain ⟨m, hml, rfl, hall, rfl⟩ := hrel
    by_cases hlt : m < c.vars.length
    · obtain ⟨z, hz⟩ : ∃ z, c.vars[m]? = some z := ⟨c.vars[m], by simp [hlt]⟩
      obtain ⟨b, off, ha, hb, hc⟩ := HI.out m z hz
      have hcr := (hb0.cell (p := ⟨b, off + m, none⟩) hb).trans hc
      have HZ : Hid (c.vars[m]? = some z) := hz
      subst ha
      clear hz hc
      cases hq : isVarB z n
      · have HN : Hid (R = false) := by rw [HE.out, all_hit (fun v => isVarB v n) c.vars m z HZ.out hq]; rfl
        go_wp2_with fail
        refine (isvar_any _ _ _).mono ?_
        rintro e w2 ⟨rfl, hw2⟩
        rw [hq, hw2]
        clear hq hw2
        go_wp2
        go_ret
        exact ⟨ret_bool HN.out.symm, hb0⟩
      · have HN : Hid ((c.vars.take (m + 1)).all (fun v => isVarB v n) = true) := all_next _ c.vars m z HZ.out hall.out hq
        go_wp2_with fail
        refine (isvar_any _ _ _).mono ?_
        rintro e w2 ⟨rfl, hw2⟩
        rw [hq, hw2]
        clear hq hw2
        go_wp2
        go_roundw
        case rel => exact ⟨m + 1, by omega, by go_num, HN, by first | rfl | trivial⟩
        case measure => simp [intOf]; omega
    · have HV : Hid (c.vars.all (fun v => isVarB v n) = true) := all_end _ c.vars m hlt hall.out
      obtain ⟨wo, rfl⟩ : ∃ wo : World, wo = wr := ⟨_, rfl⟩
      go_wp2
      clear hml hall hlt
      go_loopw [24] (fun i wr => ∃ m : Nat, m ≤ c.lits.length ∧ i = .int .i64 m ∧ Hid ((c.lits.take m).all (fun l => isVarB l.var n) = true) ∧ Below w.heap.size w wr) (fun i _ => c.lits.length - (intOf i).toNat)
      case atStart => exact ⟨0, by omega, rfl, rfl, hb0⟩
      case round =>
        obtain ⟨m, hml, rfl, hall, hbw⟩ := hrel
        by_cases hlt : m < c.lits.length
        · obtain ⟨t, hz⟩ : ∃ z, c.lits[m]? = some z := ⟨c.lits[m], by simp [hlt]⟩
          obtain ⟨b, off, ha, hb, d0, d1, d2⟩ := HL.out m t hz
          have hd0 := (hbw.cell (p := ⟨b, off + m * 3, none⟩) hb).trans d0
          have hd1 := (hbw.cell (p := ⟨b, off + m * 3 + 1, none⟩) hb).trans d1
          have hd2 := (hbw.cell (p := ⟨b, off + m * 3 + 2, none⟩) hb).trans d2
          have HZ : Hid (c.lits[m]? = some t) := hz
          have hsz := hbw.size
          subst ha
          clear hz d0 d1 d2
          cases hq : isVarB t.var n
          · have HN : Hid (R = false) := by rw [HE.out, HV.out, all_hit (fun l : MLit => isVarB l.var n) c.lits m t HZ.out hq]; rfl
            go_wp2_with fail
            refine (isvar_any _ _ _).mono ?_
            rintro e w2 ⟨rfl, hw2⟩
            rw [hq, hw2]
            clear hq hw2
            go_wp2
            go_ret
            exact ⟨ret_bool HN.out.symm, hbw.alloc hsz _⟩
          · have HN : Hid ((c.lits.take (m + 1)).all (fun l => isVarB l.var n) = true) := all_next _ c.lits m t HZ.out hall.out hq
            go_wp2_with fail
            refine (isvar_any _ _ _).mono ?_
            rintro e w2 ⟨rfl, hw2⟩
            rw [hq, hw2]
            clear hq hw2
            go_wp2
            go_roundw
            case rel => exact ⟨m + 1, by omega, by go_num, HN, hbw.alloc hsz _⟩
            case measure => simp [intOf]; omega
        · have HN : Hid (R = true) := by rw [HE.out, HV.out, all_end _ c.lits m hlt hall.out]; rfl
          go_wp2
          go_ret
          exact ⟨ret_bool HN.out.symm, hbw⟩
end Go.Proofs.YtggkbhafbhhhhabGreatDoor
