/-
  WALK: model.Check: it answers what 'checkM' says.
-/
import Derived.Test.YtggkbhafbhhhhabGreatDoorModE
namespace Go.Proofs.YtggkbhafbhhhhabGreatDoor
open Go.RowKit

def varL (m : Mod) : List Int := (List.range m.vars.length).map fun i => varE (m.vars.take i) (m.vars.getD i ⟨ByteArray.empty, 0, 0⟩)
theorem varL_get (m : Mod) (k : Nat) (t : MVar) (h : m.vars[k]? = some t) : (varL m)[k]? = some (varE (m.vars.take k) t) := by
  have hk : k < m.vars.length := (List.getElem?_eq_some_iff.1 h).1
  unfold varL
  rw [List.getElem?_map, List.getElem?_range hk]
  simp [List.getD, h]
theorem varL_len (m : Mod) : (varL m).length = m.vars.length := by simp [varL]
def conL (m : Mod) : List Int := m.cons.map (conE m.vars.length)
theorem conL_get (m : Mod) (k : Nat) (t : MCon) (h : m.cons[k]? = some t) : (conL m)[k]? = some (conE m.vars.length t) := by simp [conL, h]

set_option maxHeartbeats 1600000 in
set_option maxRecDepth 100000 in
theorem check_model (m : Mod) (vs cs : Value) (w : World) (hm : MArg w vs cs m) :
    Calls Tryz.prog 15 #[modV vs cs m] w fun e w' => e = .returned (.int .i64 (checkM m)) ∧ Below w.heap.size w w' := by
  have HMA : Hid (∀ w' : World, Below w.heap.size w w' → MArg w' vs cs m) := fun w' h => MArg.below h hm
  obtain ⟨⟨a1, c1, rfl, hl1, hr1⟩, ⟨a2, c2, rfl, hl2, hr2⟩⟩ := hm
  obtain ⟨R, hR⟩ : ∃ R, checkM m = R := ⟨_, rfl⟩
  rw [hR]
  unfold maxLen at hl1 hl2
  obtain ⟨hl11, hl1⟩ := hl1
  obtain ⟨hl21, hl2⟩ := hl2
  clear hr1 hr2
  unfold modV
  by_cases h0 : m.vars.length = 0
  · have HE : Hid (R = 1) := by rw [← hR]; unfold checkM; rw [if_pos h0]; rfl
    have g0 : ((m.vars.length : Int) == 0) = true := by simp [h0]
    clear hR h0
    go_enter Tryz.func15, Tryz.ntmps15
    go_wp2
    go_ret
    exact ⟨ret_int HE.out.symm, below_alloc _ _⟩
  · have g0 : ((m.vars.length : Int) == 0) = false := by simpa using h0
    by_cases h6 : 6 < m.vars.length
    · have HE : Hid (R = 2) := by rw [← hR]; unfold checkM; rw [if_neg h0, if_pos (Or.inl h6)]; rfl
      clear hR h0
      go_enter Tryz.func15, Tryz.ntmps15
      go_wp2
      go_ret
      exact ⟨ret_int HE.out.symm, below_alloc _ _⟩
    · by_cases h8 : 8 < m.cons.length
      · have HE : Hid (R = 2) := by rw [← hR]; unfold checkM; rw [if_neg h0, if_pos (Or.inr h8)]; rfl
        clear hR h0
        go_enter Tryz.func15, Tryz.ntmps15
        go_wp2
        go_ret
        exact ⟨ret_int HE.out.symm, below_alloc _ _⟩
      · have HE : Hid (R = if firstE (varL m) = 0 then (if firstE (conL m) = 0 then goalE m else firstE (conL m)) else firstE (varL m)) := by
          rw [← hR]; unfold checkM; rw [if_neg h0, if_neg (by omega)]; rfl
        clear hR h0
        go_enter Tryz.func15, Tryz.ntmps15
        go_wp2
        obtain ⟨w0, hw0⟩ : ∃ w0 : World, w0 = w.alloc (.cells #[.slice a1 m.vars.length c1, .slice a2 m.cons.length c2, .int .i64 m.goal, .int .i64 m.var] 25) := ⟨_, rfl⟩
        rw [← hw0]
        have HB0 : Hid (Below w.heap.size w w0) := by rw [hw0]; exact below_alloc _ _
        have HZ0 : Hid (w0.heap.size = w.heap.size + 1) := by show _ = _; rw [hw0]; simp
        have HD : Hid (w0.cell? ⟨w.heap.size, 0, none⟩ = some (.slice a1 m.vars.length c1) ∧ w0.cell? ⟨w.heap.size, 1, none⟩ = some (.slice a2 m.cons.length c2) ∧ w0.cell? ⟨w.heap.size, 2, none⟩ = some (.int .i64 m.goal) ∧ w0.cell? ⟨w.heap.size, 3, none⟩ = some (.int .i64 m.var)) := by
          rw [hw0]; exact ⟨by simp, by simp, by simp, by simp⟩
        clear hw0
        go_loopw [25] (fun i wr => ∃ k : Nat, k ≤ m.vars.length ∧ i = .int .i64 k ∧ Hid (firstE ((varL m).take k) = 0) ∧ Below w0.heap.size w0 wr) (fun i _ => m.vars.length - (intOf i).toNat)
        case atStart => exact ⟨0, by omega, rfl, rfl, Below.refl _ _⟩
        case round =>
          obtain ⟨k, hk, rfl, hno, hbw⟩ := hrel
          have hlt0 : w.heap.size < w0.heap.size := by rw [HZ0.out]; omega
          have d0 := (hbw.cell (p := ⟨w.heap.size, 0, none⟩) hlt0).trans HD.out.1
          have d1 := (hbw.cell (p := ⟨w.heap.size, 1, none⟩) hlt0).trans HD.out.2.1
          have d2 := (hbw.cell (p := ⟨w.heap.size, 2, none⟩) hlt0).trans HD.out.2.2.1
          have d3 := (hbw.cell (p := ⟨w.heap.size, 3, none⟩) hlt0).trans HD.out.2.2.2
          have HBW : Hid (Below w.heap.size w wr) := HB0.out.trans (hbw.mono (by omega))
          by_cases hlt : k < m.vars.length
          · obtain ⟨t, ht⟩ : ∃ t, m.vars[k]? = some t := ⟨m.vars[k], by simp [hlt]⟩
            have HG : Hid ((varL m)[k]? = some (varE (m.vars.take k) t)) := varL_get m k t ht
            have HT : Hid (m.vars[k]? = some t) := ht
            clear ht
            go_wp2_with fail
            refine (var_check m.vars _ k t _ (HMA.out _ HBW.out).1 HT.out).mono ?_
            rintro e w1 ⟨rfl, hb1⟩
            obtain ⟨er, her⟩ : ∃ er, varE (m.vars.take k) t = er := ⟨_, rfl⟩
            have HG2 : Hid ((varL m)[k]? = some er) := by rw [← her]; exact HG.out
            rw [her]
            clear her
            have hbt : Below w0.heap.size w0 w1 := hbw.trans (hb1.mono hbw.size)
            by_cases he : er = 0
            · subst he
              have HN : Hid (firstE ((varL m).take (k + 1)) = 0) := firstE_step _ k hno.out HG2.out
              clear hb1
              go_wp2
              go_roundw
              case rel => exact ⟨k + 1, by omega, by go_num, HN, hbt⟩
              case measure => simp [intOf]; omega
            · have HN : Hid (R = er) := by
                have hf := firstE_hit (varL m) k er hno.out HG2.out he
                rw [HE.out, hf, if_neg he]; rfl
              have he2 : (er != 0) = true := by simpa using he
              clear hb1 he
              go_wp2
              go_ret
              exact ⟨ret_int HN.out.symm, HB0.out.trans (hbt.mono (by omega))⟩
          · have HV : Hid (firstE (varL m) = 0) := by
              have := hno.out; rw [List.take_of_length_le (by rw [varL_len]; omega)] at this; exact this
            have HBO : Hid (Below w0.heap.size w0 wr) := hbw
            obtain ⟨wo, rfl⟩ : ∃ wo : World, wo = wr := ⟨_, rfl⟩
            go_wp2
            clear hk hno hbw hlt d0 d1 d2 d3
            go_loopw [39] (fun i wr => ∃ k : Nat, k ≤ m.cons.length ∧ i = .int .i64 k ∧ Hid (firstE ((conL m).take k) = 0) ∧ Below w0.heap.size w0 wr) (fun i _ => m.cons.length - (intOf i).toNat)
            case atStart => exact ⟨0, by omega, rfl, rfl, HBO.out⟩
            case round =>
              obtain ⟨k, hk, rfl, hno, hbw⟩ := hrel
              have d0 := (hbw.cell (p := ⟨w.heap.size, 0, none⟩) hlt0).trans HD.out.1
              have d1 := (hbw.cell (p := ⟨w.heap.size, 1, none⟩) hlt0).trans HD.out.2.1
              have d2 := (hbw.cell (p := ⟨w.heap.size, 2, none⟩) hlt0).trans HD.out.2.2.1
              have d3 := (hbw.cell (p := ⟨w.heap.size, 3, none⟩) hlt0).trans HD.out.2.2.2
              have HB2 : Hid (Below w.heap.size w wr) := HB0.out.trans (hbw.mono (by omega))
              by_cases hlt : k < m.cons.length
              · obtain ⟨t, ht⟩ : ∃ t, m.cons[k]? = some t := ⟨m.cons[k], by simp [hlt]⟩
                have HG : Hid ((conL m)[k]? = some (conE m.vars.length t)) := conL_get m k t ht
                obtain ⟨a2', c2', hva, _, hrc⟩ := (HMA.out _ HB2.out).2
                obtain ⟨b, off, vv, vc, vr, vl, ha, hb, e0, e1, e2, e3, e4, e5, hka⟩ := hrc k t ht
                have ha2 : a2 = some ⟨b, off, none⟩ := by cases hva; exact ha
                subst ha2
                have HKA : Hid (KArg wr vv vc vr vl t) := hka
                obtain ⟨⟨q1, r1, rfl, _, _⟩, ⟨q2, r2, rfl, _, _⟩, ⟨q3, r3, rfl, _, _⟩, ⟨q4, r4, rfl, _, _⟩⟩ := hka
                have hsz := hbw.size
                have hlw : w.heap.size < wr.heap.size := by omega
                clear ht hva hrc ha
                go_wp2_with fail
                refine (con_any t _ _ _ _ _ _ (KArg.below (below_alloc _ _) HKA.out)).mono ?_
                rintro e w1 ⟨rfl, hb1⟩
                obtain ⟨er, her⟩ : ∃ er, conE m.vars.length t = er := ⟨_, rfl⟩
                have HG2 : Hid ((conL m)[k]? = some er) := by rw [← her]; exact HG.out
                rw [her]
                clear her
                have hbt : Below w0.heap.size w0 w1 := (hbw.alloc hsz _).trans (hb1.mono (by simp; omega))
                by_cases he : er = 0
                · subst he
                  have HN : Hid (firstE ((conL m).take (k + 1)) = 0) := firstE_step _ k hno.out HG2.out
                  clear hb1
                  go_wp2
                  go_roundw
                  case rel => exact ⟨k + 1, by omega, by go_num, HN, hbt⟩
                  case measure => simp [intOf]; omega
                · have HN : Hid (R = er) := by
                    have hf := firstE_hit (conL m) k er hno.out HG2.out he
                    rw [HE.out, HV.out, if_pos rfl, hf, if_neg he]; rfl
                  have he2 : (er != 0) = true := by simpa using he
                  clear hb1 he
                  go_wp2
                  go_ret
                  exact ⟨ret_int HN.out.symm, HB0.out.trans (hbt.mono (by omega))⟩
              · have HN : Hid (R = goalE m) := by
                  have hc0 : firstE (conL m) = 0 := by have := hno.out; rw [List.take_of_length_le (by simp [conL]; omega)] at this; exact this
                  rw [HE.out, HV.out, if_pos rfl, hc0, if_pos rfl]; rfl
                go_wp2_with fail
                refine (goal_any m _ _ _ (HMA.out _ HB2.out)).mono ?_
                rintro e w3 ⟨rfl, hb3⟩
                go_wp2
                go_ret
                exact ⟨ret_int HN.out.symm, HB2.out.trans (hb3.mono HB2.out.size)⟩
end Go.Proofs.YtggkbhafbhhhhabGreatDoor
