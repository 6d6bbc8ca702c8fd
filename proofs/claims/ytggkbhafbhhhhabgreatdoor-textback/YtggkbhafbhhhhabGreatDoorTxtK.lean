/-
  WALK: package text: the reader: goal.
-/
import Derived.Test.YtggkbhafbhhhhabGreatDoorTxtJ
namespace Go.Proofs.YtggkbhafbhhhhabGreatDoor
open Go.RowKit

theorem solid_var : solid varW := by unfold solid varW; simp [go_sem]
theorem solid_col : solid colW := by unfold solid colW; simp [go_sem]
theorem solid_dots : solid dotsW := by unfold solid dotsW; simp [go_sem]
theorem solid_semi : solid semiW := by unfold solid semiW; simp [go_sem]
theorem solid_con : solid conW := by unfold solid conW; simp [go_sem]
theorem solid_solve : solid solveW := by unfold solid solveW; simp [go_sem]

set_option maxHeartbeats 1600000 in
set_option maxRecDepth 100000 in
theorem rgoal_any (N R M : Nat) (en : Int) (names : List ByteArray) (w : World) (l : List Tok) (h : Rd N R M en w l) (hn : NmS w M names) (hne : ∀ n ∈ names, n.data.toList ≠ []) :
    Calls Tryz.prog 73 #[.pointer (some ⟨R, 0, none⟩)] w (PostR (goalP en names l) (fun i v _ => v = .tuple #[.int .i64 i.1, .int .i64 i.2]) N R M en (fun k => k = R) w) := by
  have HB : Hid (Rd N R M en w l) := h
  have HN : Hid (NmS w M names) := hn
  have HNE : Hid (∀ n ∈ names, n.data.toList ≠ []) := hne
  have hMR : M ≠ R := h.1.2.2
  obtain ⟨P, hP⟩ : ∃ P, goalP en names l = P := ⟨_, rfl⟩
  have HP : Hid (P = (skipP en solveW l).bind fun _ l => (oneOfP en goalWL l).bind fun g l => if g = 0 then (skipP en semiW l).bind fun _ l => .ok (g, 0) l else (nameP en names l).bind fun v l => (skipP en semiW l).bind fun _ l => .ok (g, v) l) := by show _ = _; rw [← hP]; rfl
  rw [hP]
  clear h hP hn hne
  go_enter Tryz.func73, Tryz.ntmps73
  go_wp2_with fail
  refine (rskip_any N R M en solveW solid_solve w l HB.out).mono ?_
  intro e w1 hp
  cases hs : skipP en solveW l with
  | bad x er =>
    rw [hs] at hp
    obtain ⟨rfl, hfr⟩ := hp
    have HPB : Hid (P = .bad x er) := by show _ = _; rw [HP.out, hs]; rfl
    clear hs
    go_wp2
    exact ⟨rfl, by rw [HPB.out]; exact ⟨rfl, hfr⟩⟩
  | ok t q =>
    rw [hs] at hp
    obtain ⟨v, rfl, rfl, hrd, hfr⟩ := hp
    have HR1 : Hid (Rd N R M en w1 q) := hrd
    have HF1 : Hid (Fr (fun k => k = R) w w1) := hfr
    have HN1 : Hid (NmS w1 M names) := HN.out.old (hfr.block M HN.out.lt hMR)
    have HP1 : Hid (P = (oneOfP en goalWL q).bind fun g l => if g = 0 then (skipP en semiW l).bind fun _ l => .ok (g, 0) l else (nameP en names l).bind fun v l => (skipP en semiW l).bind fun _ l => .ok (g, v) l) := by show _ = _; rw [HP.out, hs]; rfl
    clear hs hrd hfr HP
    go_wp2_with fail
    refine (words_goals w1).mono ?_
    rintro e w2 ⟨sv, rfl, hsv, hb2⟩
    have HSV : Hid (SArg w2 sv goalWL) := hsv
    obtain ⟨as_, cs_, rfl, _, _⟩ := hsv
    have HR2 : Hid (Rd N R M en w2 q) := HR1.out.below hb2
    have HF2 : Hid (Fr (fun k => k = R) w w2) := HF1.out.trans (Fr.below hb2)
    have HN2 : Hid (NmS w2 M names) := HN1.out.old (hb2.block M HN1.out.lt)
    clear hb2
    go_wp2_with fail
    refine (oneof_any N R M en goalWL _ w2 q HR2.out HSV.out).mono ?_
    intro e w3 hp
    cases hs : oneOfP en goalWL q with
    | bad x er =>
      rw [hs] at hp
      obtain ⟨rfl, hfr⟩ := hp
      have hfr2 := HF2.out.trans hfr
      have HPB : Hid (P = .bad x er) := by show _ = _; rw [HP1.out, hs]; rfl
      clear hs hfr
      go_wp2
      exact ⟨rfl, by rw [HPB.out]; exact ⟨rfl, hfr2⟩⟩
    | ok g q2 =>
      rw [hs] at hp
      obtain ⟨v, rfl, rfl, hrd, hfr⟩ := hp
      have HR3 : Hid (Rd N R M en w3 q2) := hrd
      have HF3 : Hid (Fr (fun k => k = R) w w3) := HF2.out.trans hfr
      have HN3 : Hid (NmS w3 M names) := HN2.out.old (hfr.block M HN2.out.lt hMR)
      have HP2 : Hid (P = if g = 0 then (skipP en semiW q2).bind fun _ l => .ok (g, 0) l else (nameP en names q2).bind fun v l => (skipP en semiW l).bind fun _ l => .ok (g, v) l) := by show _ = _; rw [HP1.out, hs]; rfl
      clear hs hrd hfr HP1
      by_cases hg : g = 0
      · subst hg
        have HP3 : Hid (P = (skipP en semiW q2).bind fun _ l => .ok (0, 0) l) := by show _ = _; rw [HP2.out, if_pos rfl]
        clear HP2
        go_wp2_with fail
        refine (rskip_any N R M en semiW solid_semi w3 q2 HR3.out).mono ?_
        intro e w4 hp
        cases hs : skipP en semiW q2 with
        | bad x er =>
          rw [hs] at hp
          obtain ⟨rfl, hfr⟩ := hp
          have hfr2 := HF3.out.trans hfr
          have HPB : Hid (P = .bad x er) := by show _ = _; rw [HP3.out, hs]; rfl
          clear hs hfr
          go_wp2
          exact ⟨rfl, by rw [HPB.out]; exact ⟨rfl, hfr2⟩⟩
        | ok t3 q3 =>
          rw [hs] at hp
          obtain ⟨v, rfl, rfl, hrd, hfr⟩ := hp
          have hfr2 := HF3.out.trans hfr
          have HPB : Hid (P = .ok (0, 0) q3) := by show _ = _; rw [HP3.out, hs]; rfl
          clear hs hfr
          go_wp2
          go_ret2
          rw [HPB.out]
          exact ⟨_, rfl, rfl, hrd, hfr2⟩
      · have HP3 : Hid (P = (nameP en names q2).bind fun v l => (skipP en semiW l).bind fun _ l => .ok (g, v) l) := by show _ = _; rw [HP2.out, if_neg hg]
        have hg2 : (g != 0) = true := by simpa using hg
        clear HP2 hg
        go_wp2_with fail
        refine (name_any N R M en names w3 q2 HR3.out HN3.out HNE.out).mono ?_
        intro e w4 hp
        cases hs : nameP en names q2 with
        | bad x er =>
          rw [hs] at hp
          obtain ⟨rfl, hfr⟩ := hp
          have hfr2 := HF3.out.trans hfr
          have HPB : Hid (P = .bad x er) := by show _ = _; rw [HP3.out, hs]; rfl
          clear hs hfr
          go_wp2
          exact ⟨rfl, by rw [HPB.out]; exact ⟨rfl, hfr2⟩⟩
        | ok a q3 =>
          rw [hs] at hp
          obtain ⟨v, rfl, rfl, hrd, hfr⟩ := hp
          have HR4 : Hid (Rd N R M en w4 q3) := hrd
          have HF4 : Hid (Fr (fun k => k = R) w w4) := HF3.out.trans hfr
          have HP4 : Hid (P = (skipP en semiW q3).bind fun _ l => .ok (g, a) l) := by show _ = _; rw [HP3.out, hs]; rfl
          clear hs hrd hfr HP3
          go_wp2_with fail
          refine (rskip_any N R M en semiW solid_semi w4 q3 HR4.out).mono ?_
          intro e w5 hp
          cases hs : skipP en semiW q3 with
          | bad x er =>
            rw [hs] at hp
            obtain ⟨rfl, hfr⟩ := hp
            have hfr2 := HF4.out.trans hfr
            have HPB : Hid (P = .bad x er) := by show _ = _; rw [HP4.out, hs]; rfl
            clear hs hfr
            go_wp2
            exact ⟨rfl, by rw [HPB.out]; exact ⟨rfl, hfr2⟩⟩
          | ok t4 q4 =>
            rw [hs] at hp
            obtain ⟨v, rfl, rfl, hrd, hfr⟩ := hp
            have hfr2 := HF4.out.trans hfr
            have HPB : Hid (P = .ok (g, a) q4) := by show _ = _; rw [HP4.out, hs]; rfl
            clear hs hfr
            go_wp2
            go_ret2
            rw [HPB.out]
            exact ⟨_, rfl, rfl, hrd, hfr2⟩
end Go.Proofs.YtggkbhafbhhhhabGreatDoor
