/-
  How models lie in memory, and that what is old stays so.
-/
import Derived.Test.YtggkbhafbhhhhabGreatDoorModPlain
namespace Go.Proofs.YtggkbhafbhhhhabGreatDoor
open Go.RowKit

/-- A list of numbers: a slice value that leads to them. -/
def IArg (w : World) (v : Value) (l : List Int) : Prop :=
  ∃ a c, v = .slice a l.length c ∧ (l.length ≤ c ∧ c ≤ maxLen) ∧ ∀ (i : Nat) (z : Int), l[i]? = some z → ∃ b off, a = some ⟨b, off, none⟩ ∧ b < w.heap.size ∧ w.cell? ⟨b, off + i, none⟩ = some (.int .i64 z)
/-- A list of lists of numbers. -/
def RArg (w : World) (v : Value) (l : List (List Int)) : Prop :=
  ∃ a c, v = .slice a l.length c ∧ (l.length ≤ c ∧ c ≤ maxLen) ∧ ∀ (i : Nat) (r : List Int), l[i]? = some r → ∃ b off x, a = some ⟨b, off, none⟩ ∧ b < w.heap.size ∧ w.cell? ⟨b, off + i, none⟩ = some x ∧ IArg w x r
/-- A list of literals. -/
def LArg (w : World) (v : Value) (l : List MLit) : Prop :=
  ∃ a c, v = .slice a l.length c ∧ (l.length ≤ c ∧ c ≤ maxLen) ∧ ∀ (i : Nat) (t : MLit), l[i]? = some t → ∃ b off, a = some ⟨b, off, none⟩ ∧ b < w.heap.size ∧
    w.cell? ⟨b, off + i * 3, none⟩ = some (.int .i64 t.var) ∧ w.cell? ⟨b, off + i * 3 + 1, none⟩ = some (.int .i64 t.op) ∧ w.cell? ⟨b, off + i * 3 + 2, none⟩ = some (.int .i64 t.n)
/-- A list of variables. -/
def VArg (w : World) (v : Value) (l : List MVar) : Prop :=
  ∃ a c, v = .slice a l.length c ∧ (l.length ≤ c ∧ c ≤ maxLen) ∧ ∀ (i : Nat) (t : MVar), l[i]? = some t → t.name.size ≤ maxLen ∧ ∃ b off, a = some ⟨b, off, none⟩ ∧ b < w.heap.size ∧
    w.cell? ⟨b, off + i * 3, none⟩ = some (.string t.name) ∧ w.cell? ⟨b, off + i * 3 + 1, none⟩ = some (.int .i64 t.lo) ∧ w.cell? ⟨b, off + i * 3 + 2, none⟩ = some (.int .i64 t.hi)
/-- A constraint, by the four values that lead to its lists. -/
def KArg (w : World) (vv vc vr vl : Value) (c : MCon) : Prop := IArg w vv c.vars ∧ IArg w vc c.consts ∧ RArg w vr c.rows ∧ LArg w vl c.lits
def conV (vv vc vr vl : Value) (c : MCon) : Value := .agg #[.int .i64 c.kind, vv, vc, .int .i64 c.n, vr, vl]
/-- A list of constraints. -/
def CArg (w : World) (v : Value) (l : List MCon) : Prop :=
  ∃ a c, v = .slice a l.length c ∧ (l.length ≤ c ∧ c ≤ maxLen) ∧ ∀ (i : Nat) (t : MCon), l[i]? = some t → ∃ b off vv vc vr vl, a = some ⟨b, off, none⟩ ∧ b < w.heap.size ∧
    w.cell? ⟨b, off + i * 6, none⟩ = some (.int .i64 t.kind) ∧ w.cell? ⟨b, off + i * 6 + 1, none⟩ = some vv ∧ w.cell? ⟨b, off + i * 6 + 2, none⟩ = some vc ∧
    w.cell? ⟨b, off + i * 6 + 3, none⟩ = some (.int .i64 t.n) ∧ w.cell? ⟨b, off + i * 6 + 4, none⟩ = some vr ∧ w.cell? ⟨b, off + i * 6 + 5, none⟩ = some vl ∧ KArg w vv vc vr vl t
/-- A model, by the two values that lead to its lists. -/
def MArg (w : World) (vs cs : Value) (m : Mod) : Prop := VArg w vs m.vars ∧ CArg w cs m.cons
def modV (vs cs : Value) (m : Mod) : Value := .agg #[vs, cs, .int .i64 m.goal, .int .i64 m.var]

section
variable {w w' : World} (hb : Below w.heap.size w w')
theorem IArg.below {v : Value} {l : List Int} (hb : Below w.heap.size w w') (h : IArg w v l) : IArg w' v l := by
  obtain ⟨a, c, hv, hm, hr⟩ := h
  refine ⟨a, c, hv, hm, fun i z hz => ?_⟩
  obtain ⟨b, off, ha, hlt, hc⟩ := hr i z hz
  exact ⟨b, off, ha, Nat.lt_of_lt_of_le hlt hb.size, (hb.cell (p := ⟨b, off + i, none⟩) hlt).trans hc⟩
theorem RArg.below {v : Value} {l : List (List Int)} (hb : Below w.heap.size w w') (h : RArg w v l) : RArg w' v l := by
  obtain ⟨a, c, hv, hm, hr⟩ := h
  refine ⟨a, c, hv, hm, fun i z hz => ?_⟩
  obtain ⟨b, off, x, ha, hlt, hc, hx⟩ := hr i z hz
  exact ⟨b, off, x, ha, Nat.lt_of_lt_of_le hlt hb.size, (hb.cell (p := ⟨b, off + i, none⟩) hlt).trans hc, IArg.below hb hx⟩
theorem LArg.below {v : Value} {l : List MLit} (hb : Below w.heap.size w w') (h : LArg w v l) : LArg w' v l := by
  obtain ⟨a, c, hv, hm, hr⟩ := h
  refine ⟨a, c, hv, hm, fun i z hz => ?_⟩
  obtain ⟨b, off, ha, hlt, c0, c1, c2⟩ := hr i z hz
  exact ⟨b, off, ha, Nat.lt_of_lt_of_le hlt hb.size, (hb.cell (p := ⟨b, off + i * 3, none⟩) hlt).trans c0, (hb.cell (p := ⟨b, off + i * 3 + 1, none⟩) hlt).trans c1, (hb.cell (p := ⟨b, off + i * 3 + 2, none⟩) hlt).trans c2⟩
theorem VArg.below {v : Value} {l : List MVar} (hb : Below w.heap.size w w') (h : VArg w v l) : VArg w' v l := by
  obtain ⟨a, c, hv, hm, hr⟩ := h
  refine ⟨a, c, hv, hm, fun i z hz => ?_⟩
  obtain ⟨hs, b, off, ha, hlt, c0, c1, c2⟩ := hr i z hz
  exact ⟨hs, b, off, ha, Nat.lt_of_lt_of_le hlt hb.size, (hb.cell (p := ⟨b, off + i * 3, none⟩) hlt).trans c0, (hb.cell (p := ⟨b, off + i * 3 + 1, none⟩) hlt).trans c1, (hb.cell (p := ⟨b, off + i * 3 + 2, none⟩) hlt).trans c2⟩
theorem KArg.below {vv vc vr vl : Value} {c : MCon} (hb : Below w.heap.size w w') (h : KArg w vv vc vr vl c) : KArg w' vv vc vr vl c :=
  ⟨IArg.below hb h.1, IArg.below hb h.2.1, RArg.below hb h.2.2.1, LArg.below hb h.2.2.2⟩
theorem CArg.below {v : Value} {l : List MCon} (hb : Below w.heap.size w w') (h : CArg w v l) : CArg w' v l := by
  obtain ⟨a, c, hv, hm, hr⟩ := h
  refine ⟨a, c, hv, hm, fun i z hz => ?_⟩
  obtain ⟨b, off, vv, vc, vr, vl, ha, hlt, c0, c1, c2, c3, c4, c5, hk⟩ := hr i z hz
  exact ⟨b, off, vv, vc, vr, vl, ha, Nat.lt_of_lt_of_le hlt hb.size, (hb.cell (p := ⟨b, off + i * 6, none⟩) hlt).trans c0, (hb.cell (p := ⟨b, off + i * 6 + 1, none⟩) hlt).trans c1, (hb.cell (p := ⟨b, off + i * 6 + 2, none⟩) hlt).trans c2,
    (hb.cell (p := ⟨b, off + i * 6 + 3, none⟩) hlt).trans c3, (hb.cell (p := ⟨b, off + i * 6 + 4, none⟩) hlt).trans c4, (hb.cell (p := ⟨b, off + i * 6 + 5, none⟩) hlt).trans c5, KArg.below hb hk⟩
theorem MArg.below {vs cs : Value} {m : Mod} (hb : Below w.heap.size w w') (h : MArg w vs cs m) : MArg w' vs cs m := ⟨VArg.below hb h.1, CArg.below hb h.2⟩
end
theorem below_alloc (w : World) (o : Obj) : Below w.heap.size w (w.alloc o) := (Below.refl _ _).alloc (Nat.le_refl _) o
end Go.Proofs.YtggkbhafbhhhhabGreatDoor
