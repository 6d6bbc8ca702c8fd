/-
  Sets of pairs of numbers: a map whose keys are arrays of two.
-/
import Derived.Test.YtggkbhafbhhhhadGreatFilPlain
import Derived.Maps.OwnSet
import Derived.Maps.AppendAt
import Derived.DeepKeys4
import Derived.WalkKit
namespace Go.Proofs.YtggkbhafbhhhhadGreat
open Go.RowKit Go.Maps

theorem Tryz.pairUnder : Tryz.prog.underlying 124 = some (.array 2 3) := by kernel_rfl
theorem Tryz.pairWide : (match Tryz.prog.underlying 124 with | some (.array _ _) | some (.struct _) => true | _ => false) = true := by rw [Tryz.pairUnder]
theorem Tryz.pairRow : (124 : Nat) < Tryz.prog.types.size := of_decide_eq_true (by kernel_rfl)
theorem Tryz.pairLaid : laidOutB Tryz.prog = true := by kernel_rfl
theorem Tryz.pairCells : Tryz.prog.cellsOf 124 = 2 := by kernel_rfl
theorem Tryz.pairCell : Tryz.prog.cellsOf 3 = 1 := by kernel_rfl
set_option maxRecDepth 100000 in
theorem Tryz.pairKeyed : Keyed Tryz.prog 124 := Keyed.of_law (deep_law_laid Tryz.pairLaid (m := 2) (by omega) Tryz.pairRow (by kernel_rfl) Tryz.pairWide)
theorem Tryz.pairType : Tryz.prog.keyType 124 = true := by kernel_rfl
theorem Tryz.unitZero (w : World) : (zeroValue 122).run Tryz.prog w = .ok (.agg #[]) w := by kernel_rfl

/-- What such a key reads as. -/
def pairK (a b : Int) : Lit := .string (keyBytes [.int .i64 a, .int .i64 b])
def okInt (a : Int) : Prop := -1000000 ≤ a ∧ a ≤ 1000000
theorem ok_wf {a : Int} (h : okInt a) : (Lit.int .i64 a).wf = true := WalkArith.wf_i64 (by unfold okInt at h; omega)
theorem pair_lits (d : Nat) (a b : Int) (ha : okInt a) (hb : okInt b) : Tryz.prog.keyLits (d + 2) 124 [.int .i64 a, .int .i64 b] = some [.int .i64 a, .int .i64 b] := by
  have h0 : Tryz.prog.underlying 3 = some (.int .i64) := Tryz.underlying3
  unfold Program.keyLits
  simp only [Tryz.pairUnder, Tryz.pairCells, Tryz.pairCell]
  simp [List.range_succ, Program.keyLits, h0, ok_wf ha, ok_wf hb]
theorem keyOf_pair (a b : Int) (ha : okInt a) (hb : okInt b) : keyOf Tryz.prog 124 (.agg #[.int .i64 a, .int .i64 b]) = some (pairK a b) := by
  have hf : (Value.agg #[.int .i64 a, .int .i64 b]).formed Tryz.prog 124 = true := by simp [Value.formed, Tryz.pairCells]
  have hs : ∃ d, Tryz.prog.types.size + 1 = d + 2 := ⟨Tryz.prog.types.size - 1, by have := Tryz.pairRow; omega⟩
  obtain ⟨d, hd⟩ := hs
  unfold keyOf
  rw [Tryz.pairUnder]
  simp only [Tryz.pairType, hf, Bool.and_self, if_true]
  rw [hd]
  show Option.map _ (Tryz.prog.keyLits (d + 2) 124 [.int .i64 a, .int .i64 b]) = _
  rw [pair_lits d a b ha hb]
  rfl
theorem pairK_inj {a b c d : Int} (ha : okInt a) (hb : okInt b) (hc : okInt c) (hd : okInt d) (h : pairK a b = pairK c d) : a = c ∧ b = d := by
  have h1 := keyOf_pair a b ha hb
  have h2 := keyOf_pair c d hc hd
  rw [← h] at h2
  have := Tryz.pairKeyed.inj h1 h2
  simp at this
  exact this

def okPair (p : Int × Int) : Prop := okInt p.1 ∧ okInt p.2
def setP {H : Type} (l : List (Int × Int)) : DataW H := setOf (.agg []) (l.map fun p => pairK p.1 p.2)
theorem setP_next {H : Type} (l : List (Int × Int)) (p : Int × Int) : setP (H := H) (l ++ [p]) = (setP l).put (pairK p.1 p.2) (.agg []) := by
  unfold setP; rw [List.map_append]; exact setOf_snoc _ _ _
theorem has_setP {H : Type} (l : List (Int × Int)) (p : Int × Int) (hl : ∀ q ∈ l, okPair q) (hp : okPair p) : Maps.has (setP (H := H) l) (pairK p.1 p.2) = l.contains p := by
  unfold setP
  rw [has_setOf _ _ _ (fun y hy => by obtain ⟨q, _, rfl⟩ := List.mem_map.1 hy; unfold pairK; trivial), List.any_map]
  rw [Bool.eq_iff_iff, List.any_eq_true, List.contains_iff_mem]
  constructor
  · rintro ⟨q, hq, he⟩
    have he2 : pairK q.1 q.2 = pairK p.1 p.2 := WideAt.sameKey_eq he
    obtain ⟨h1, h2⟩ := pairK_inj (hl q hq).1 (hl q hq).2 hp.1 hp.2 he2
    have : q = p := Prod.ext h1 h2
    rw [← this]; exact hq
  · intro h
    refine ⟨p, h, ?_⟩
    show (pairK p.1 p.2).sameKey (pairK p.1 p.2) = true
    exact WideAt.sameKey_self (by unfold pairK; trivial)
end Go.Proofs.YtggkbhafbhhhhadGreat
