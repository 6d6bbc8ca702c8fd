/-
  WALKS: package text: read's deferred closure; read.
-/
import Derived.Test.YtggkbhafbhhhhabGreatDoorTxtS
namespace Go.Proofs.YtggkbhafbhhhhabGreatDoor
open Go.RowKit

theorem slots_eq (b : Nat) (v : Value) : (#[.pointer (some ⟨b, 0, none⟩), .pointer (some ⟨b + 1, 0, none⟩), .pointer (some ⟨b + 2, 0, none⟩)] : Array Value) ++ ((Array.replicate 19 undef).setIfInBounds 3 v).setIfInBounds 0 v = #[.pointer (some ⟨b, 0, none⟩), .pointer (some ⟨b + 1, 0, none⟩), .pointer (some ⟨b + 2, 0, none⟩), v, undef, undef, v, undef, undef, undef, undef, undef, undef, undef, undef, undef, undef, undef, undef, undef, undef, undef] := by kernel_rfl
theorem tassert9 (x er : Int) (w : World) : Sem.run Tryz.prog (Instr.typeAssert (.iface 83 (.agg #[.int .i64 x, .int .i64 er])) 20 83 true) w = .ok (.tuple #[.agg #[.int .i64 x, .int .i64 er], .bool true]) w := by kernel_rfl
set_option maxHeartbeats 1600000 in
set_option maxRecDepth 100000 in
theorem catch_idle (b : Nat) (w : World) :
    CallsD Tryz.prog 40 #[.pointer (some ⟨b, 0, none⟩), .pointer (some ⟨b + 1, 0, none⟩), .pointer (some ⟨b + 2, 0, none⟩)] .returning w fun e u' w' => e = .returned (.tuple #[]) ∧ u' = .returning ∧ w' = w := by
  refine callsD_of_wpS Tryz.func40 rfl fun c₀ cs hu => ?_
  apply wpS_seq
  apply wpS_region
  simp [wpOpsS, go_sem, recoverD, hu, Tryz.ntmps40, Exit.thenS]
  rw [slots_eq]
  refine wpS_of_wp ?_
  go_wp2
  cases c₀
  simp_all [bodyPostS, results, Tryz.results40]
def Three (b : Nat) (x er : Int) (w0 w : World) : Prop :=
  w.heap[b]? = some (.cells #[.slice none 0 0, .slice none 0 0, .int .i64 0, .int .i64 0] 25) ∧ w.heap[b + 1]? = some (.cells #[.int .i64 x] 3) ∧ w.heap[b + 2]? = some (.cells #[.int .i64 er] 26) ∧ Fr (fun k => k = b ∨ k = b + 1 ∨ k = b + 2) w0 w
theorem Three.zero {b : Nat} {x er : Int} {w0 w : World} (h : Three b x er w0 w) (i : Nat) (u : Value) (hcs : (#[.slice none 0 0, .slice none 0 0, .int .i64 0, .int .i64 0] : Array Value).setIfInBounds i u = #[.slice none 0 0, .slice none 0 0, .int .i64 0, .int .i64 0]) : Three b x er w0 (w.setCell ⟨b, i, none⟩ u) := by
  obtain ⟨h0, h1, h2, h3⟩ := h
  refine ⟨?_, ?_, ?_, h3.setX (p := ⟨b, i, none⟩) (Or.inl rfl) u⟩
  · rw [heap_setCell_same w b i _ _ u h0, hcs]
  · exact (Below.heap_setCell _ _ _ _ (show b + 1 ≠ b by omega)).trans h1
  · exact (Below.heap_setCell _ _ _ _ (show b + 2 ≠ b by omega)).trans h2
theorem Three.one {b : Nat} {x er y : Int} {w0 w : World} (h : Three b x er w0 w) : Three b y er w0 (w.setCell ⟨b + 1, 0, none⟩ (.int .i64 y)) := by
  obtain ⟨h0, h1, h2, h3⟩ := h
  refine ⟨?_, ?_, ?_, h3.setX (p := ⟨b + 1, 0, none⟩) (Or.inr (Or.inl rfl)) _⟩
  · exact (Below.heap_setCell _ _ _ _ (show b ≠ b + 1 by omega)).trans h0
  · rw [heap_setCell_same w (b + 1) 0 _ _ _ h1]; rfl
  · exact (Below.heap_setCell _ _ _ _ (show b + 2 ≠ b + 1 by omega)).trans h2
theorem Three.two {b : Nat} {x er y : Int} {w0 w : World} (h : Three b x er w0 w) : Three b x y w0 (w.setCell ⟨b + 2, 0, none⟩ (.int .i64 y)) := by
  obtain ⟨h0, h1, h2, h3⟩ := h
  refine ⟨?_, ?_, ?_, h3.setX (p := ⟨b + 2, 0, none⟩) (Or.inr (Or.inr rfl)) _⟩
  · exact (Below.heap_setCell _ _ _ _ (show b ≠ b + 2 by omega)).trans h0
  · exact (Below.heap_setCell _ _ _ _ (show b + 1 ≠ b + 2 by omega)).trans h1
  · rw [heap_setCell_same w (b + 2) 0 _ _ _ h2]; rfl
theorem Three.below {b : Nat} {x er : Int} {w0 w w' : World} (h : Three b x er w0 w) (hb : Below w.heap.size w w') : Three b x er w0 w' :=
  ⟨(hb.block _ (Array.getElem?_eq_some_iff.1 h.1).1).trans h.1, (hb.block _ (Array.getElem?_eq_some_iff.1 h.2.1).1).trans h.2.1, (hb.block _ (Array.getElem?_eq_some_iff.1 h.2.2.1).1).trans h.2.2.1, h.2.2.2.trans (Fr.below hb)⟩
set_option maxHeartbeats 1600000 in
set_option maxRecDepth 100000 in
theorem catch_bad (b : Nat) (x er : Int) (w : World) (hT : Three b 0 0 w w) :
    CallsD Tryz.prog 40 #[.pointer (some ⟨b, 0, none⟩), .pointer (some ⟨b + 1, 0, none⟩), .pointer (some ⟨b + 2, 0, none⟩)] (.panicking [{ v := .iface 83 (.agg #[.int .i64 x, .int .i64 er]), recovered := false }]) w fun e u' w' => e = .returned (.tuple #[]) ∧ u' = .panicking [{ v := .iface 83 (.agg #[.int .i64 x, .int .i64 er]), recovered := true }] ∧
      Three b x er w w' := by
  have HT : Hid (Three b 0 0 w w) := hT
  obtain ⟨h0, h1, h2, _⟩ := hT
  have r0 := blk9 h0 0 _ rfl
  have r1 := blk9 h0 1 _ rfl
  have r2 := blk9 h0 2 _ rfl
  have r3 := blk9 h0 3 _ rfl
  have r4 := blk9 h1 0 _ rfl
  have r5 := blk9 h2 0 _ rfl
  have z0 := frz9 h0 0
  have z1 := frz9 h0 1
  have z2 := frz9 h0 2
  have z3 := frz9 h0 3
  have z4 := frz9 h1 0
  have z5 := frz9 h2 0
  have hl0 : b < w.heap.size := (Array.getElem?_eq_some_iff.1 h0).1
  have hl1 : b + 1 < w.heap.size := (Array.getElem?_eq_some_iff.1 h1).1
  have hl2 : b + 2 < w.heap.size := (Array.getElem?_eq_some_iff.1 h2).1
  clear h0 h1 h2
  refine callsD_of_wpS Tryz.func40 rfl fun c₀ cs hu => ?_
  apply wpS_seq
  apply wpS_region
  simp [wpOpsS, go_sem, recoverD, hu, Tryz.ntmps40, Exit.thenS]
  rw [slots_eq]
  refine wpS_of_wp ?_
  have hta := tassert9 x er
  go_wp2_with fail
  go_region
  all_goals
    refine ⟨rfl, _, rfl, _, results_none rfl _ _ _, rfl, rfl, ?_⟩
    refine Three.below ?_ (Below.refl _ _).drew
    refine Three.below ?_ (below_alloc _ _)
    exact (((((HT.out.zero 0 _ rfl).zero 1 _ rfl).zero 2 _ rfl).zero 3 _ rfl).one (y := x)).two (y := er)
end Go.Proofs.YtggkbhafbhhhhabGreatDoor
