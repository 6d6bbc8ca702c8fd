/-
  slices.Sort and slices.Compact on numbers of one's own, in this proof's words.
-/
import Derived.Test.YtggkbhafbhhhhadGreatSrt
namespace Go.Proofs.YtggkbhafbhhhhadGreat
open Go.RowKit Go.Sort

theorem put_below (w : World) (n g B : Nat) (d : Array Int) (hB : B ≤ g) : Below B w (putRow (Value.int .i64) (Sort.ahead w n) g 0 d) := by
  refine ⟨rfl, rfl, rfl, by simp [putRow, mapBlock, Sort.ahead], fun k hk => ?_⟩
  show (Array.modify _ _ _)[k]? = _
  rw [Array.getElem?_modify, if_neg (by omega)]; rfl
theorem grow_below (w : World) (os : Array Obj) (B : Nat) (hB : B ≤ w.heap.size) : Below B w (grow w os) :=
  ⟨rfl, rfl, rfl, by simp, fun k hk => heap_grow_old w os (by omega)⟩
/-- A row of numbers that may be written: it lies at a block's head. -/
def IRow (w : World) (g : Nat) (zs : List Int) : Prop := Holds (Value.int .i64) w g 0 zs.toArray ∧ g < w.heap.size
theorem irow_own {w : World} {base g cap : Nat} {zs : List Int} (h : w.ownsRow base 3 1 (.slice (some ⟨g, 0, none⟩) zs.length cap) zs.length (zs.map (Value.int .i64))) : IRow w g zs := by
  refine ⟨fun j hj => ?_, (h.lt g rfl).2⟩
  have hj' : j < zs.length := by simpa using hj
  rw [Nat.zero_add]
  refine ⟨?_, h.frozenAt j⟩
  rw [h.cellAt j (by omega), List.getElem?_map]
  simp [hj']
theorem irow_arg {w : World} {g cap n : Nat} {zs : List Int} (h : IRow w g zs) (hn : n = zs.length) (hc : n ≤ cap) (hm : cap ≤ maxLen) : IArg w (.slice (some ⟨g, 0, none⟩) n cap) zs := by
  subst hn
  refine ⟨_, cap, rfl, ⟨hc, hm⟩, fun i z hz => ⟨g, 0, rfl, h.2, ?_⟩⟩
  have hi : i < zs.length := (List.getElem?_eq_some_iff.1 hz).1
  have hz' : zs[i] = z := by simpa [hi] using hz
  have := (h.1 i (by simpa using hi)).1
  rw [this]
  simp [hi, hz']

def sortI (zs : List Int) : List Int := zs.mergeSort fun x y => decide (x ≤ y)
theorem sortI_len (zs : List Int) : (sortI zs).length = zs.length := by simp [sortI]

theorem sort_any (zs : List Int) (g cap B : Nat) (w : World) (h : IRow w g zs) (hB : B ≤ g) (hn : zs.length ≤ 1000) :
    Calls Tryz.prog 75 #[.slice (some ⟨g, 0, none⟩) zs.length cap] w fun e w' => e = .returned (.tuple #[]) ∧ IRow w' g (sortI zs) ∧ Below B w w' := by
  refine (Tryz.slices_Sort_int g 0 cap zs w h.1 h.2 (by omega)).mono ?_
  rintro e w' ⟨rfl, n, os, rfl⟩
  have hp : Holds (Value.int .i64) (Sort.ahead w n) g 0 zs.toArray := h.1
  have hs : g < (putRow (Value.int .i64) (Sort.ahead w n) g 0 (sortI zs).toArray).heap.size := by
    have : (putRow (Value.int .i64) (Sort.ahead w n) g 0 (sortI zs).toArray).heap.size = w.heap.size := by simp [putRow, mapBlock, Sort.ahead]
    rw [this]; exact h.2
  have h2 := h.2
  refine ⟨rfl, ⟨holds_grow _ _ _ _ _ _ hs (holds_putRow _ _ _ _ _ _ hp (by simp)), by simp; omega⟩, (put_below w n g B _ hB).trans (grow_below _ _ _ (Nat.le_trans hB (Nat.le_of_lt hs)))⟩

def compI (zs : List Int) : List Int := Lib.compact zs
theorem holds_take {w : World} {g : Nat} (a b : List Int) (h : Holds (Value.int .i64) w g 0 (a ++ b).toArray) : Holds (Value.int .i64) w g 0 a.toArray := by
  intro j hj
  have hj' : j < a.length := by simpa using hj
  have := h j (by simp; omega)
  have e1 : (a ++ b).toArray[j]! = a.toArray[j]! := by
    simp [List.getElem?_append_left hj']
  rw [e1] at this
  exact this
theorem compI_len (zs : List Int) : (compI zs).length ≤ zs.length := by
  unfold compI Lib.compact Lib.compactUpTo
  rw [List.length_map]
  exact Nat.le_trans (List.length_filter_le _ _) (by simp)
theorem compact_any (zs : List Int) (g cap B : Nat) (w : World) (h : IRow w g zs) (hB : B ≤ g) (hn : zs.length ≤ 1000) (hc : zs.length ≤ cap) :
    Calls Tryz.prog 76 #[.slice (some ⟨g, 0, none⟩) zs.length cap] w fun e w' => e = .returned (.slice (some ⟨g, 0, none⟩) (compI zs).length cap) ∧ IRow w' g (compI zs) ∧ Below B w w' := by
  refine (Tryz.slices_Compact_int g 0 cap zs w h.1 (by omega) hc).mono ?_
  rintro e w' ⟨rfl, q, rfl⟩
  have hp : Holds (Value.int .i64) (Sort.ahead w q) g 0 zs.toArray := h.1
  refine ⟨rfl, ⟨?_, ?_⟩, put_below w q g B _ hB⟩
  · refine holds_take (compI zs) (List.replicate (zs.length - (compI zs).length) 0) ?_
    have hl := compI_len zs
    exact holds_putRow _ _ _ _ _ _ hp (by simp; unfold compI at *; omega)
  · have : (putRow (Value.int .i64) (Sort.ahead w q) g 0 (Lib.compact zs ++ List.replicate (zs.length - (Lib.compact zs).length) 0).toArray).heap.size = w.heap.size := by simp [putRow, mapBlock, Sort.ahead]
    rw [this]; exact h.2
end Go.Proofs.YtggkbhafbhhhhadGreat
