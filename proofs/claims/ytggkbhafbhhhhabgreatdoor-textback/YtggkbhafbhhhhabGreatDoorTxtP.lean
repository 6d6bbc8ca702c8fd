/-
  WALK: package text: the reader: con, whatever kind.
-/
import Derived.Test.YtggkbhafbhhhhabGreatDoorTxtO
namespace Go.Proofs.YtggkbhafbhhhhabGreatDoor
open Go.RowKit

set_option maxHeartbeats 1600000 in
set_option maxRecDepth 100000 in
theorem rcon_any (N R M : Nat) (en : Int) (names : List ByteArray) (w : World) (l : List Tok) (h : Rd N R M en w l) (hn : NmS w M names) (hne : ∀ n ∈ names, n.data.toList ≠ []) :
    Calls Tryz.prog 72 #[.pointer (some ⟨R, 0, none⟩)] w (PostR (conP en names l) (GC w.heap.size) N R M en (fun k => k = R) w) := by
  cases hs1 : skipP en conW l with
  | bad x er =>
    have HPB : Hid (conP en names l = .bad x er) := by show _ = _; unfold conP; rw [hs1]; rfl
    have HB : Hid (Rd N R M en w l) := h
    have HS1 : Hid (skipP en conW l = .bad x er) := hs1
    rw [HPB.out]
    clear h hn hne hs1
    go_enter Tryz.func72, Tryz.ntmps72
    go_wp2_with fail
    have HR0 := HB.out.below (below_alloc w (.cells #[.int .i64 0, .slice none 0 0, .slice none 0 0, .int .i64 0, .slice none 0 0, .slice none 0 0] 54))
    refine (rskip_any N R M en conW solid_con _ l HR0).mono ?_
    intro e w1 hp
    rw [HS1.out] at hp
    obtain ⟨rfl, hfr⟩ := hp
    have hfr2 := (Fr.below (X := fun k => k = R) (below_alloc w (.cells #[.int .i64 0, .slice none 0 0, .slice none 0 0, .int .i64 0, .slice none 0 0, .slice none 0 0] 54))).trans hfr
    clear hfr HR0
    go_wp2
    exact ⟨rfl, rfl, hfr2⟩
  | ok t1 q1 =>
    cases hs2 : oneOfP en conWL q1 with
    | bad x er =>
      have HPB : Hid (conP en names l = .bad x er) := by show _ = _; unfold conP; rw [hs1]; show ((oneOfP en conWL q1).bind _) = _; rw [hs2]; rfl
      have HB : Hid (Rd N R M en w l) := h
      have HS1 : Hid (skipP en conW l = .ok t1 q1) := hs1
      have HS2 : Hid (oneOfP en conWL q1 = .bad x er) := hs2
      rw [HPB.out]
      clear h hn hne hs1 hs2
      go_enter Tryz.func72, Tryz.ntmps72
      go_wp2_with fail
      have HR0 := HB.out.below (below_alloc w (.cells #[.int .i64 0, .slice none 0 0, .slice none 0 0, .int .i64 0, .slice none 0 0, .slice none 0 0] 54))
      refine (rskip_any N R M en conW solid_con _ l HR0).mono ?_
      intro e w1 hp
      rw [HS1.out] at hp
      obtain ⟨v, rfl, rfl, hrd, hfr⟩ := hp
      have HR1 : Hid (Rd N R M en w1 q1) := hrd
      have HF1 : Hid (Fr (fun k => k = R) w w1) := (Fr.below (X := fun k => k = R) (below_alloc w (.cells #[.int .i64 0, .slice none 0 0, .slice none 0 0, .int .i64 0, .slice none 0 0, .slice none 0 0] 54))).trans hfr
      clear hfr hrd HR0
      go_wp2_with fail
      refine (words_cons w1).mono ?_
      rintro e w2 ⟨sv, rfl, hsv, hb2⟩
      have HSV : Hid (SArg w2 sv conWL) := hsv
      obtain ⟨as_, cs_, rfl, _, _⟩ := hsv
      have HR2 : Hid (Rd N R M en w2 q1) := HR1.out.below hb2
      have HF2 : Hid (Fr (fun k => k = R) w w2) := HF1.out.trans (Fr.below hb2)
      clear hb2
      go_wp2_with fail
      refine (oneof_any N R M en conWL _ w2 q1 HR2.out HSV.out).mono ?_
      intro e w3 hp
      rw [HS2.out] at hp
      obtain ⟨rfl, hfr⟩ := hp
      have hfr2 := HF2.out.trans hfr
      clear hfr
      go_wp2
      exact ⟨rfl, rfl, hfr2⟩
    | ok k q2 =>
      by_cases k1 : k = 1
      · subst k1; exact con_1 N R M en names w l h hn hne t1 q1 q2 hs1 hs2
      by_cases k2 : k = 2
      · subst k2; exact con_2 N R M en names w l h hn hne t1 q1 q2 hs1 hs2
      by_cases k3 : k = 3
      · subst k3; exact con_3 N R M en names w l h hn hne t1 q1 q2 hs1 hs2
      by_cases k4 : k = 4
      · subst k4; exact con_4 N R M en names w l h hn hne t1 q1 q2 hs1 hs2
      by_cases k5 : k = 5
      · subst k5; exact con_5 N R M en names w l h hn hne t1 q1 q2 hs1 hs2
      by_cases k6 : k = 6
      · subst k6; exact con_6 N R M en names w l h hn hne t1 q1 q2 hs1 hs2
      by_cases k7 : k = 7
      · subst k7; exact con_7 N R M en names w l h hn hne t1 q1 q2 hs1 hs2
      by_cases k8 : k = 8
      · subst k8; exact con_8 N R M en names w l h hn hne t1 q1 q2 hs1 hs2
      by_cases k9 : k = 9
      · subst k9; exact con_9 N R M en names w l h hn hne t1 q1 q2 hs1 hs2
      by_cases k10 : k = 10
      · subst k10; exact con_10 N R M en names w l h hn hne t1 q1 q2 hs1 hs2
      have f : ∀ i : Int, ¬ k = i → (k == i) = false := fun i h => by simpa using h
      exact con_other N R M en names w l h hn hne t1 q1 q2 k ⟨f _ k1, f _ k2, f _ k3, f _ k4, f _ k5, f _ k6, f _ k7, f _ k8, f _ k9, f _ k10⟩ hs1 hs2
end Go.Proofs.YtggkbhafbhhhhabGreatDoor
