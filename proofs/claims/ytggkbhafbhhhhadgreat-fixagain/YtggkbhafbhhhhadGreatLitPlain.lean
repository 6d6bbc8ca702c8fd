/-
  PLAIN: literals, and what the program's calls say of them; that a literal and its opposite part the values.
-/
import Derived.Test.YtggkbhafbhhhhadGreatSifPlain
namespace Go.Proofs.YtggkbhafbhhhhadGreat

def litE (vs : List MVar) (l : MLit) : Int :=
  if l.var < 0 ∨ (vs.length : Int) ≤ l.var then 5 else if l.op < 1 ∨ 4 < l.op then 7 else if l.n < -1000 ∨ 1000 < l.n then 3 else 0
def lcheckA (m : Mod) (l : MLit) : Int := if checkM m = 0 then litE m.vars l else checkM m
def lholdsA (m : Mod) (l : MLit) (x : Int) : Bool × Int := if lcheckA m l = 0 then (litV x l, 0) else (false, lcheckA m l)
def oppL (l : MLit) : MLit := if l.op = 1 then ⟨l.var, 2, l.n + 1⟩ else if l.op = 2 then ⟨l.var, 1, l.n - 1⟩ else if l.op = 3 then ⟨l.var, 4, l.n⟩ else ⟨l.var, 3, l.n⟩
def noLit : MLit := ⟨0, 0, 0⟩
def lnotA (m : Mod) (l : MLit) : MLit × Int :=
  if lcheckA m l = 0 then (if litE m.vars (oppL l) = 0 then (oppL l, 0) else (noLit, litE m.vars (oppL l))) else (noLit, lcheckA m l)
def linE (m : Mod) (s : Sto) (l : MLit) : Int := if checkL m [s] = 0 then litE m.vars l else checkL m [s]
def heldN (r : List Int) (l : MLit) : Nat := (r.filter fun x => litV x l).length
def toldR (r : List Int) (l : MLit) : Int := if heldN r l = 0 then -1 else if heldN r l = r.length then 1 else 0
def rowOf (s : Sto) (l : MLit) : List Int := s.getD l.var.toNat []
def ltoldA (m : Mod) (s : Sto) (l : MLit) : Int × Int := if linE m s l = 0 then (toldR (rowOf s l) l, 0) else (0, linE m s l)
def putB (l : MLit) (k : Nat) (z : Int) : Bool := decide ((k : Int) ≠ l.var) || litV z l
def putS (s : Sto) (l : MLit) : Sto := siftS s (putB l)
def lputA (m : Mod) (s : Sto) (l : MLit) : Sto × Int := if linE m s l = 0 then (putS s l, 0) else ([], linE m s l)

theorem litE_ok (vs : List MVar) (l : MLit) : litE vs l = 0 ↔ (0 ≤ l.var ∧ l.var < vs.length) ∧ (1 ≤ l.op ∧ l.op ≤ 4) ∧ (-1000 ≤ l.n ∧ l.n ≤ 1000) := by
  unfold litE
  split
  · constructor
    · intro h; cases h
    · intro h; omega
  · split
    · constructor
      · intro h; cases h
      · intro h; omega
    · split
      · constructor
        · intro h; cases h
        · intro h; omega
      · constructor
        · intro _; omega
        · intro _; rfl
theorem oppL_var (l : MLit) : (oppL l).var = l.var := by
  unfold oppL
  split
  · rfl
  · split
    · rfl
    · split <;> rfl
theorem oppL_op (l : MLit) : 1 ≤ (oppL l).op ∧ (oppL l).op ≤ 4 := by
  unfold oppL
  split
  · simp
  · split
    · simp
    · split <;> simp
theorem litV_opp (x : Int) (l : MLit) (h : 1 ≤ l.op ∧ l.op ≤ 4) : litV x (oppL l) = !litV x l := by
  rcases (show l.op = 1 ∨ l.op = 2 ∨ l.op = 3 ∨ l.op = 4 by omega) with h | h | h | h
  · simp only [oppL, litV, h]
    simp
    by_cases q : x ≤ l.n
    · rw [decide_eq_true q, decide_eq_false (by omega)]; rfl
    · rw [decide_eq_false q, decide_eq_true (by omega)]; rfl
  · simp only [oppL, litV, h]
    simp
    by_cases q : l.n ≤ x
    · rw [decide_eq_true q, decide_eq_false (by omega)]; rfl
    · rw [decide_eq_false q, decide_eq_true (by omega)]; rfl
  · simp only [oppL, litV, h]
    simp [bne]
  · simp only [oppL, litV, h]
    simp [bne]
theorem linE_ok (m : Mod) (s : Sto) (l : MLit) (h : linE m s l = 0) : checkL m [s] = 0 ∧ litE m.vars l = 0 := by
  unfold linE at h
  split at h
  · rename_i h0; exact ⟨h0, h⟩
  · contradiction
theorem checkL_one (m : Mod) (s : Sto) : checkL m [s] = 0 ↔ checkM m = 0 ∧ checkV m.vars s = 0 := by
  unfold checkL
  by_cases h : checkM m = 0
  · rw [if_pos h]
    simp only [List.map, firstE]
    by_cases h1 : checkV m.vars s = 0
    · simp [h, h1]
    · simp [h1]
  · rw [if_neg h]; simp [h]
theorem put_row (s : Sto) (l : MLit) (i : Nat) (hi : l.var = (i : Int)) (r : List Int) (hr : s[i]? = some r) : (putS s l)[i]? = some (r.filter fun z => litV z l) := by
  unfold putS
  rw [siftS_get s _ i r hr]
  congr 1
  refine List.filter_congr fun z _ => ?_
  unfold putB
  rw [hi]; simp
theorem held_parts (r : List Int) (l : MLit) (h : 1 ≤ l.op ∧ l.op ≤ 4) : heldN r l + heldN r (oppL l) = r.length := by
  unfold heldN
  induction r with
  | nil => rfl
  | cons a r ih =>
    rw [List.filter_cons, List.filter_cons, litV_opp a l h]
    cases litV a l <;> simp <;> omega
theorem lcheck_ok (m : Mod) (l : MLit) (h : lcheckA m l = 0) : checkM m = 0 ∧ litE m.vars l = 0 := by
  unfold lcheckA at h
  split at h
  · rename_i h0; exact ⟨h0, h⟩
  · contradiction
end Go.Proofs.YtggkbhafbhhhhadGreat
