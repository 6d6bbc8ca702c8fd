/-
  WALK: tokenBegun says yes.
-/
import Derived.Test.YtjbeggebnededaaTokJ
namespace Go.Proofs.Ytjbeggebnededaa
open Go.RowKit

def begunText : ByteArray := ⟨#[97, 98, 32, 60, 61, 32, 55, 59, 37, 120]⟩
def begunToks : List Tok := [⟨1, 0, ⟨#[97, 98]⟩⟩, ⟨3, 3, ⟨#[60, 61]⟩⟩, ⟨2, 6, ⟨#[55]⟩⟩, ⟨3, 7, ⟨#[59]⟩⟩]
theorem begun_scan : scanOf begunText = (begunToks, 0, 0) := by kernel_rfl
theorem begun_join : joinOf begunToks = (⟨#[97, 98, 32, 60, 61, 32, 55, 32, 59]⟩, 0) := by kernel_rfl

set_option maxHeartbeats 400000 in
set_option maxRecDepth 100000 in
theorem begun_any (w : World) :
    Calls Try.prog 11 #[] w fun e w' => e = .returned (.bool true) ∧ Below w.heap.size w w' := by
  go_enter Try.func11, Try.ntmps11
  go_wp2_with fail
  refine (scan_all begunText (by unfold maxLen; decide) _).mono ?_
  rintro e w1 ⟨v, rfl, hown, hb1⟩
  rw [begun_scan] at hown ⊢
  obtain ⟨g, cap, rfl, hg1, hg2, hrow⟩ := own_row hown (by simp [begunToks])
  have hrow2 := hrow
  obtain ⟨c0, c1, c2⟩ := hrow 1 ⟨3, 3, ⟨#[60, 61]⟩⟩ rfl
  clear hown
  go_wp2_with fail
  refine (join_any begunToks g 0 cap _ (by simp [begunToks]) (by intro t ht; simp only [begunToks, List.mem_cons, List.not_mem_nil, or_false] at ht; rcases ht with rfl | rfl | rfl | rfl <;> (unfold maxLen; decide)) hg2 hrow2).mono ?_
  rintro e w2 ⟨rfl, hb2⟩
  rw [begun_join]
  have d0 : w2.cell? ⟨g, 3, none⟩ = some (.int .i64 3) := (hb2.cell (p := ⟨g, 3, none⟩) hg2).trans c0
  have d1 : w2.cell? ⟨g, 4, none⟩ = some (.int .i64 3) := (hb2.cell (p := ⟨g, 4, none⟩) hg2).trans c1
  have d2 : w2.cell? ⟨g, 5, none⟩ = some (.string ⟨#[60, 61]⟩) := (hb2.cell (p := ⟨g, 5, none⟩) hg2).trans c2
  clear c0 c1 c2 hrow hrow2
  go_wp2
  go_ret
  exact ⟨rfl, hb1.trans (hb2.mono hb1.size)⟩
end Go.Proofs.Ytjbeggebnededaa
