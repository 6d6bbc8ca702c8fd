/-
  WALKS: package text: the reader: skip, isName, newName, oneOf.
-/
import Derived.Test.YtggkbhafbhhhhabGreatDoorTxtA
import Derived.Test.YtggkbhafbhhhhabGreatDoorModF
namespace Go.Proofs.YtggkbhafbhhhhabGreatDoor
open Go.RowKit

/-- No text is the empty one. -/
def solid (s : ByteArray) : Prop := (ByteArray.empty.toList == s.toList) = false
theorem head_some (en : Int) (l : List Tok) (s : ByteArray) (hs : solid s) (h : ((headT en l).text.toList == s.toList) = true) : l ≠ [] := by
  intro hl
  subst hl
  have h2 : (ByteArray.empty.toList == s.toList) = true := h
  rw [hs] at h2
  cases h2
theorem PostR.fr {α : Type} {p : PR α} {G : α → Value → World → Prop} {N R M : Nat} {en : Int} {X : Nat → Prop} {w0 w w' : World} {e : Ending} (h0 : Fr X w0 w) (h : PostR p G N R M en X w e w') : PostR p G N R M en X w0 e w' := by
  unfold PostR at *
  cases p with
  | ok a r => obtain ⟨v, h1, h2, h3, h4⟩ := h; exact ⟨v, h1, h2, h3, h0.trans h4⟩
  | bad x er => exact ⟨h.1, h0.trans h.2⟩

set_option maxHeartbeats 800000 in
set_option maxRecDepth 100000 in
theorem rskip_any (N R M : Nat) (en : Int) (s : ByteArray) (hs : solid s) (w : World) (l : List Tok) (h : Rd N R M en w l) :
    Calls Tryz.prog 95 #[.pointer (some ⟨R, 0, none⟩), .string s] w (PostR (skipP en s l) (fun _ v _ => v = .tuple #[]) N R M en (fun k => k = R) w) := by
  have hf2 := tokF2 (headT en l)
  have HB : Hid (Rd N R M en w l) := h
  have HS : Hid (solid s) := hs
  obtain ⟨B, hB⟩ : ∃ B, ((headT en l).text.toList == s.toList) = B := ⟨_, rfl⟩
  have HBB : Hid (((headT en l).text.toList == s.toList) = B) := hB
  have HP : Hid (skipP en s l = passP en B l) := by show _ = _; unfold skipP; rw [hB]
  rw [HP.out]
  clear hs hB
  go_enter Tryz.func95, Tryz.ntmps95
  go_wp2_with fail
  refine (ahead_any N R M en _ l HB.out).mono ?_
  rintro e w1 ⟨rfl, hb1⟩
  have HR1 : Hid (Rd N R M en w1 l) := HB.out.below hb1
  have HF1 : Hid (Fr (fun k => k = R) w w1) := Fr.below hb1
  unfold tokA
  go_wp2_with fail
  rw [HBB.out]
  refine (pass_any N R M en B w1 l HR1.out (fun hb => head_some en l s HS.out (HBB.out.trans hb))).mono ?_
  intro e w2 hp
  have HP2 : Hid (PostR (passP en B l) (fun t v _ => v = tokA t) N R M en (fun k => k = R) w e w2) := hp.fr HF1.out
  clear hp hb1 h
  cases B
  · obtain ⟨rfl, hfr⟩ := HP2.out
    go_wp2
    exact ⟨rfl, rfl, hfr⟩
  · obtain ⟨v, rfl, rfl, hrd, hfr⟩ := HP2.out
    unfold tokA
    go_wp2
    go_end0
    exact ⟨_, rfl, rfl, hrd, hfr⟩
end Go.Proofs.YtggkbhafbhhhhabGreatDoor
