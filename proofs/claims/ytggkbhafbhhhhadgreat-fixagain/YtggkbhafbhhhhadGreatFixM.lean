/-
  MEMORY: ways to narrow a store, as closures; lists of them; lists of clauses.
-/
import Derived.Test.YtggkbhafbhhhhadGreatNarB
import Derived.Test.YtggkbhafbhhhhadGreatFixPlain2
namespace Go.Proofs.YtggkbhafbhhhhadGreat
open Go.RowKit

/-- Some blocks are as they were. -/
structure KeepS (S : Nat → Prop) (w w' : World) : Prop where
  base : Below 0 w w'
  block : ∀ k, S k → w'.heap[k]? = w.heap[k]?
theorem KeepS.trans {S : Nat → Prop} {a b c : World} (h : KeepS S a b) (k : KeepS S b c) : KeepS S a c := ⟨h.base.trans k.base, fun i hi => (k.block i hi).trans (h.block i hi)⟩
theorem KeepS.below {S : Nat → Prop} {w w' : World} (h : Below w.heap.size w w') (hS : ∀ k, S k → k < w.heap.size) : KeepS S w w' := ⟨h.mono (Nat.zero_le _), fun k hk => h.block k (hS k hk)⟩
theorem KeepS.grown {S : Nat → Prop} {w w' : World} {row : Option Nat} (h : w.grownBy w' row) (hS : ∀ k, S k → k < w.heap.size ∧ some k ≠ row) : KeepS S w w' :=
  ⟨⟨h.os, h.tape, h.output, h.size, fun _ hk => absurd hk (Nat.not_lt_zero _)⟩, fun k hk => h.block k (hS k hk).1 (hS k hk).2⟩
theorem KeepS.to {S : Nat → Prop} {w w' : World} {N : Nat} (h : KeepS S w w') (hS : ∀ k, k < N → S k) : Below N w w' := ⟨h.base.os, h.base.tape, h.base.output, h.base.size, fun k hk => h.block k (hS k hk)⟩
theorem KeepS.cell {S : Nat → Prop} {w w' : World} (h : KeepS S w w') {p : Addr} (hp : S p.block) : w'.cell? p = w.cell? p := World.cell?_of_block (w := w) (h.block p.block hp)

/-- A way to narrow stores: a closure that hangs on some blocks alone. -/
def ByS (S : Nat → Prop) (ok : Sto → Prop) (f : Sto → Sto) (y : Value) (w : World) : Prop :=
  ∃ F caps, y = .func (.func F) #[] caps ∧ (∀ (args : Array Value) (w' : World), Sem.run Tryz.prog (callFunc F args) w' = .ok (.enter F args) w') ∧
    ∀ (t : Sto) (v : Value) (w' : World), ok t → KeepS S w w' → RArg w' v t → Calls Tryz.prog F (#[v] ++ caps) w' fun e w'' => ∃ x, e = .returned x ∧ RArg w'' x (f t) ∧ Below w'.heap.size w' w''
/-- .. that hangs on what is old. -/
def ByB (ok : Sto → Prop) (f : Sto → Sto) (y : Value) (w : World) : Prop :=
  ∃ F caps, y = .func (.func F) #[] caps ∧ (∀ (args : Array Value) (w' : World), Sem.run Tryz.prog (callFunc F args) w' = .ok (.enter F args) w') ∧
    ∀ (t : Sto) (v : Value) (w' : World), ok t → Below w.heap.size w w' → RArg w' v t → Calls Tryz.prog F (#[v] ++ caps) w' fun e w'' => ∃ x, e = .returned x ∧ RArg w'' x (f t) ∧ Below w'.heap.size w' w''
theorem ByS.keep {S : Nat → Prop} {ok : Sto → Prop} {f : Sto → Sto} {y : Value} {w w' : World} (h : ByS S ok f y w) (k : KeepS S w w') : ByS S ok f y w' := by
  obtain ⟨F, caps, hy, he, hc⟩ := h
  exact ⟨F, caps, hy, he, fun t v w2 ht hk hv => hc t v w2 ht (k.trans hk) hv⟩
theorem ByS.plain {S : Nat → Prop} {ok : Sto → Prop} {f : Sto → Sto} {y : Value} {w : World} (h : ByS S ok f y w) (hS : ∀ k, S k → k < w.heap.size) : ByB ok f y w := by
  obtain ⟨F, caps, hy, he, hc⟩ := h
  exact ⟨F, caps, hy, he, fun t v w2 ht hb hv => hc t v w2 ht (KeepS.below hb hS) hv⟩
theorem ByS.one {S : Nat → Prop} {ok : Sto → Prop} {f : Sto → Sto} {y : Value} {w : World} (h : ByS S ok f y w) : y.oneCell' = true := by
  obtain ⟨F, caps, rfl, _, _⟩ := h
  rfl
theorem ByB.below {ok : Sto → Prop} {f : Sto → Sto} {y : Value} {w w' : World} (h : ByB ok f y w) (hb : Below w.heap.size w w') : ByB ok f y w' := by
  obtain ⟨F, caps, hy, he, hc⟩ := h
  exact ⟨F, caps, hy, he, fun t v w2 ht hb2 hv => hc t v w2 ht (hb.trans (hb2.mono hb.size)) hv⟩
/-- A list of ways. -/
def WArg (ok : Sto → Prop) (w : World) (v : Value) (fs : List (Sto → Sto)) : Prop :=
  ∃ a c, v = .slice a fs.length c ∧ (fs.length ≤ c ∧ c ≤ maxLen) ∧ ∀ (i : Nat) (f : Sto → Sto), fs[i]? = some f → ∃ b off x, a = some ⟨b, off, none⟩ ∧ b < w.heap.size ∧ w.cell? ⟨b, off + i, none⟩ = some x ∧ ByB ok f x w
theorem own_ways {ok : Sto → Prop} {w : World} {base : Nat} {v : Value} {fs : List (Sto → Sto)} {cells : List Value} (h : w.ownsRow base 86 1 v fs.length cells)
    (hb : ∀ (i : Nat) (f : Sto → Sto), fs[i]? = some f → ∃ y, cells[i]? = some y ∧ ByB ok f y w) : WArg ok w v fs := by
  rcases h.2 with ⟨rfl, hn⟩ | ⟨g, cap, cur, rfl, hg, hh, hc1, hc2, _, _⟩
  · have : fs = [] := List.eq_nil_of_length_eq_zero hn
    subst this
    exact ⟨none, 0, rfl, ⟨Nat.le_refl _, Nat.zero_le _⟩, fun i z hz => by simp at hz⟩
  · refine ⟨_, cap, rfl, ⟨hc1, hc2⟩, fun i f hf => ?_⟩
    obtain ⟨y, hy, hby⟩ := hb i f hf
    have hi : i < fs.length := (List.getElem?_eq_some_iff.1 hf).1
    exact ⟨g, 0, y, rfl, (Array.getElem?_eq_some_iff.1 hh).1, by rw [Nat.zero_add, h.cellAt i (by omega)]; exact hy, hby⟩

/-- A list of clauses. -/
def LLArg (w : World) (v : Value) (l : List Cla) : Prop :=
  ∃ a c, v = .slice a l.length c ∧ (l.length ≤ c ∧ c ≤ maxLen) ∧ ∀ (i : Nat) (t : Cla), l[i]? = some t → ∃ b off x, a = some ⟨b, off, none⟩ ∧ b < w.heap.size ∧ w.cell? ⟨b, off + i, none⟩ = some x ∧ LArg w x t
theorem LLArg.below {w w' : World} {v : Value} {l : List Cla} (hb : Below w.heap.size w w') (h : LLArg w v l) : LLArg w' v l := by
  obtain ⟨a, c, hv, hm, hr⟩ := h
  refine ⟨a, c, hv, hm, fun i z hz => ?_⟩
  obtain ⟨b, off, x, ha, hlt, hc, hx⟩ := hr i z hz
  exact ⟨b, off, x, ha, Nat.lt_of_lt_of_le hlt hb.size, (hb.cell (p := ⟨b, off + i, none⟩) hlt).trans hc, LArg.below hb hx⟩

theorem Tryz.infoBy : (Tryz.prog.info? 86).map (fun i => (i.zero, i.size, i.bytes)) = some (some .nilFunc, 1, 8) := by kernel_rfl
theorem Tryz.underBys : Tryz.prog.underlying 50 = some (.slice 86) := by kernel_rfl
/-- Ways are made: all are nil. -/
theorem make_ways (n : Nat) (hn : n ≤ 1000) (w : World) : ∃ w', Sem.run Tryz.prog (Instr.makeSlice 50 (.int .i64 (n : Int)) (.int .i64 (n : Int))) w = .ok (.slice (some ⟨w.heap.size, 0, none⟩) n n) w' ∧
    w'.ownsRow w.heap.size 86 1 (.slice (some ⟨w.heap.size, 0, none⟩) n n) n (List.replicate n .nilFunc) ∧ Below w.heap.size w w' := by
  obtain ⟨i0, hi, hz0, hz1, hz2⟩ := info_parts Tryz.infoBy
  obtain ⟨w', hrun, hown, hg⟩ := run_makeSlice_full w w.heap.size 50 86 i0 .nilFunc 1 Tryz.underBys hi hz0 hz1 .i64 .i64 n (by omega) (by rw [hz2]; omega) (by unfold maxLen; omega) (Nat.le_refl _)
  refine ⟨w', hrun, ?_, (Below.refl _ _).grown hg (Nat.le_refl _) (fun k h => by cases h)⟩
  have : (Value.nilFunc).cells = #[.nilFunc] := rfl
  rw [this, Nat.mul_one, toList_madeCells_one] at hown
  exact hown
end Go.Proofs.YtggkbhafbhhhhadGreat
