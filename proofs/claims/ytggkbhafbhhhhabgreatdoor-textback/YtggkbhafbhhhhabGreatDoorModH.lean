/-
  WALK: two(): the small model that all statements begin with.
-/
import Derived.Test.YtggkbhafbhhhhabGreatDoorModG
namespace Go.Proofs.YtggkbhafbhhhhabGreatDoor
open Go.RowKit

def twoM : Mod := ⟨[⟨⟨#[120]⟩, 0, 2⟩, ⟨⟨#[121]⟩, 0, 2⟩], [⟨1, [0, 1], [1, -1], -1, [], []⟩], 1, 1⟩
theorem two_checks : checkM twoM = 0 := by kernel_rfl

theorem five_blocks (w : World) (o1 o2 o3 o4 o5 : Obj) :
    (((((w.alloc o1).alloc o2).alloc o3).alloc o4).alloc o5).heap[w.heap.size + 1]? = some o2 ∧ (((((w.alloc o1).alloc o2).alloc o3).alloc o4).alloc o5).heap[w.heap.size + 1 + 1]? = some o3 ∧
    (((((w.alloc o1).alloc o2).alloc o3).alloc o4).alloc o5).heap[w.heap.size + 1 + 1 + 1]? = some o4 ∧ (((((w.alloc o1).alloc o2).alloc o3).alloc o4).alloc o5).heap[w.heap.size + 1 + 1 + 1 + 1]? = some o5 := by
  refine ⟨?_, ?_, ?_, ?_⟩
  all_goals
    show (((((w.heap.push _).push _).push _).push _).push _)[_]? = _
    simp only [Array.getElem?_push, Array.size_push]
    repeat first | rw [if_pos (by omega)] | rw [if_neg (by omega)]
  all_goals rfl

set_option maxHeartbeats 400000 in
set_option maxRecDepth 100000 in
theorem two_any (w : World) :
    Calls Tryz.prog 26 #[] w fun e w' => ∃ vs cs, e = .returned (modV vs cs twoM) ∧ MArg w' vs cs twoM ∧ Below w.heap.size w w' := by
  go_enter Tryz.func26, Tryz.ntmps26
  go_wp2
  refine bodyPost_ret (v := modV (.slice (some ⟨w.heap.size + 1, 0, none⟩) 2 2) (.slice (some ⟨w.heap.size + 1 + 1 + 1 + 1, 0, none⟩) 1 1) twoM) (by simp [results, Tryz.results26, go_sem, modV, twoM]) rfl ⟨_, _, rfl, ⟨?_, ?_⟩, ?_⟩
  · refine ⟨_, _, rfl, ⟨by decide, by unfold maxLen; decide⟩, fun i t ht => ?_⟩
    have hb := (five_blocks w (.cells #[.slice (some ⟨w.heap.size + 1, 0, none⟩) 2 2, .slice (some ⟨w.heap.size + 1 + 1 + 1 + 1, 0, none⟩) 1 1, .int .i64 1, .int .i64 1] 25) (.cells #[.string ⟨#[120]⟩, .int .i64 0, .int .i64 2, .string ⟨#[121]⟩, .int .i64 0, .int .i64 2] 47) (.cells #[.int .i64 0, .int .i64 1] 3) (.cells #[.int .i64 1, .int .i64 (-1)] 3) (.cells #[.int .i64 1, .slice (some ⟨w.heap.size + 1 + 1, 0, none⟩) 2 2, .slice (some ⟨w.heap.size + 1 + 1 + 1, 0, none⟩) 2 2, .int .i64 (-1), .slice none 0 0, .slice none 0 0] 54)).1
    match i, ht with
    | 0, ht => cases ht; exact ⟨by unfold maxLen; decide, _, _, rfl, by simp, by rw [Lib.cell_of_heap hb]; rfl, by rw [Lib.cell_of_heap hb]; rfl, by rw [Lib.cell_of_heap hb]; rfl⟩
    | 1, ht => cases ht; exact ⟨by unfold maxLen; decide, _, _, rfl, by simp, by rw [Lib.cell_of_heap hb]; rfl, by rw [Lib.cell_of_heap hb]; rfl, by rw [Lib.cell_of_heap hb]; rfl⟩
  · refine ⟨_, _, rfl, ⟨by decide, by unfold maxLen; decide⟩, fun i t ht => ?_⟩
    obtain ⟨_, hb2, hb3, hb4⟩ := five_blocks w (.cells #[.slice (some ⟨w.heap.size + 1, 0, none⟩) 2 2, .slice (some ⟨w.heap.size + 1 + 1 + 1 + 1, 0, none⟩) 1 1, .int .i64 1, .int .i64 1] 25) (.cells #[.string ⟨#[120]⟩, .int .i64 0, .int .i64 2, .string ⟨#[121]⟩, .int .i64 0, .int .i64 2] 47) (.cells #[.int .i64 0, .int .i64 1] 3) (.cells #[.int .i64 1, .int .i64 (-1)] 3) (.cells #[.int .i64 1, .slice (some ⟨w.heap.size + 1 + 1, 0, none⟩) 2 2, .slice (some ⟨w.heap.size + 1 + 1 + 1, 0, none⟩) 2 2, .int .i64 (-1), .slice none 0 0, .slice none 0 0] 54)
    match i, ht with
    | 0, ht =>
      cases ht
      refine ⟨_, _, .slice (some ⟨w.heap.size + 1 + 1, 0, none⟩) 2 2, .slice (some ⟨w.heap.size + 1 + 1 + 1, 0, none⟩) 2 2, .slice none 0 0, .slice none 0 0, rfl, by simp, by rw [Lib.cell_of_heap hb4]; rfl, by rw [Lib.cell_of_heap hb4]; rfl, by rw [Lib.cell_of_heap hb4]; rfl, by rw [Lib.cell_of_heap hb4]; rfl, by rw [Lib.cell_of_heap hb4]; rfl, by rw [Lib.cell_of_heap hb4]; rfl, ?_⟩
      refine ⟨⟨_, _, rfl, ⟨by decide, by unfold maxLen; decide⟩, fun i z hz => ?_⟩, ⟨_, _, rfl, ⟨by decide, by unfold maxLen; decide⟩, fun i z hz => ?_⟩, ⟨_, _, rfl, ⟨by decide, by unfold maxLen; decide⟩, fun i z hz => by simp at hz⟩, ⟨_, _, rfl, ⟨by decide, by unfold maxLen; decide⟩, fun i z hz => by simp at hz⟩⟩
      · match i, hz with
        | 0, hz => cases hz; exact ⟨_, _, rfl, by simp, by rw [Lib.cell_of_heap hb2]; rfl⟩
        | 1, hz => cases hz; exact ⟨_, _, rfl, by simp, by rw [Lib.cell_of_heap hb2]; rfl⟩
      · match i, hz with
        | 0, hz => cases hz; exact ⟨_, _, rfl, by simp, by rw [Lib.cell_of_heap hb3]; rfl⟩
        | 1, hz => cases hz; exact ⟨_, _, rfl, by simp, by rw [Lib.cell_of_heap hb3]; rfl⟩
  · exact (((((Below.refl _ _).alloc (Nat.le_refl _) _).alloc (by simp) _).alloc (by simp; omega) _).alloc (by simp; omega) _).alloc (by simp; omega) _
end Go.Proofs.YtggkbhafbhhhhabGreatDoor
