/-
  PLAIN: models, and what the program's Check says of them, as functions on data; no program in it.
-/
import Derived.Test.YtggkbhafbhhhhabGreatDoorTokS
namespace Go.Proofs.YtggkbhafbhhhhabGreatDoor

structure MVar where
  name : ByteArray
  lo : Int
  hi : Int
structure MLit where
  var : Int
  op : Int
  n : Int
structure MCon where
  kind : Int
  vars : List Int
  consts : List Int
  n : Int
  rows : List (List Int)
  lits : List MLit
structure Mod where
  vars : List MVar
  cons : List MCon
  goal : Int
  var : Int

def isWordB (s : ByteArray) : Bool :=
  (s.toList == [118, 97, 114]) || ((s.toList == [99, 111, 110]) || ((s.toList == [115, 111, 108, 118, 101]) || ((s.toList == [108, 101]) || ((s.toList == [101, 113]) || ((s.toList == [110, 101]) || ((s.toList == [100, 105, 102, 102, 101, 114]) || ((s.toList == [101, 108, 101, 109, 101, 110, 116]) || ((s.toList == [116, 97, 98, 108, 101]) || ((s.toList == [116, 105, 109, 101, 115]) || ((s.toList == [109, 97, 120]) || ((s.toList == [99, 108, 97, 117, 115, 101]) || ((s.toList == [105, 102, 102]) || ((s.toList == [97, 110, 121]) || ((s.toList == [108, 101, 97, 115, 116]) || (s.toList == [109, 111, 115, 116])))))))))))))))
def isNameB (s : ByteArray) : Bool := isTok 1 s && !isWordB s
def inB (n most : Int) : Bool := decide (-most ≤ n) && decide (n ≤ most)
def isVarB (v n : Int) : Bool := decide (0 ≤ v) && decide (v < n)
def isConstB (n : Int) : Bool := inB n 1000

def varE (vs : List MVar) (v : MVar) : Int :=
  if isNameB v.name then
    if vs.any (fun u => u.name.toList == v.name.toList) then 6
    else if inB v.lo 50 && (inB v.hi 50 && !decide (v.hi < v.lo)) then (if 6 < v.hi - v.lo + 1 then 2 else 0) else 3
  else 1
/-- The first of some errors that is one. -/
def firstE : List Int → Int
  | [] => 0
  | e :: r => if e = 0 then firstE r else e
def varsE (vs : List MVar) : Int := firstE ((List.range vs.length).map fun i => varE (vs.take i) (vs.getD i ⟨ByteArray.empty, 0, 0⟩))

def manyB (c : MCon) : Bool := decide (4 < c.vars.length) || (decide (4 < c.lits.length) || (decide (8 < c.consts.length) || decide (20 < c.rows.length)))
def formB (c : MCon) : Bool :=
  if c.kind = 1 ∨ c.kind = 2 ∨ c.kind = 3 then decide (1 ≤ c.vars.length) && (decide (c.consts.length = c.vars.length) && decide (c.rows.length + c.lits.length = 0))
  else if c.n ≠ 0 then false
  else if c.kind = 4 then decide (1 ≤ c.vars.length) && decide (c.consts.length + c.rows.length + c.lits.length = 0)
  else if c.kind = 5 then decide (c.vars.length = 2) && (decide (1 ≤ c.consts.length) && decide (c.rows.length + c.lits.length = 0))
  else if c.kind = 6 then decide (1 ≤ c.vars.length) && (decide (c.consts.length + c.lits.length = 0) && c.rows.all fun r => decide (r.length = c.vars.length))
  else if c.kind = 7 then decide (c.vars.length = 3) && decide (c.consts.length + c.rows.length + c.lits.length = 0)
  else if c.kind = 8 then decide (2 ≤ c.vars.length) && decide (c.consts.length + c.rows.length + c.lits.length = 0)
  else if c.kind = 9 then decide (c.vars.length + c.consts.length + c.rows.length = 0)
  else if c.kind = 10 then decide (c.vars.length = 1) && (decide (c.lits.length = 1) && decide (c.consts.length + c.rows.length = 0))
  else false
def varsB (c : MCon) (n : Int) : Bool := c.vars.all (fun v => isVarB v n) && c.lits.all (fun l => isVarB l.var n)
def constsB (c : MCon) : Bool := c.consts.all isConstB && (isConstB c.n && c.rows.all fun r => r.all isConstB)
def litsE (ls : List MLit) : Int :=
  if ls.all (fun l => decide (1 ≤ l.op) && decide (l.op ≤ 4)) then (if ls.all (fun l => isConstB l.n) then 0 else 3) else 7
def conE (n : Int) (c : MCon) : Int :=
  if 1 ≤ c.kind ∧ c.kind ≤ 10 then (if manyB c then 2 else if formB c then (if varsB c n then (if constsB c then litsE c.lits else 3) else 5) else 1) else 7
def consE (m : Mod) : Int := firstE (m.cons.map (conE m.vars.length))
def goalE (m : Mod) : Int :=
  if m.goal = 0 then (if m.var = 0 then 0 else 1) else if m.goal = 1 ∨ m.goal = 2 then (if isVarB m.var m.vars.length then 0 else 5) else 7
def checkM (m : Mod) : Int :=
  if m.vars.length = 0 then 1 else if 6 < m.vars.length ∨ 8 < m.cons.length then 2
  else if varsE m.vars = 0 then (if consE m = 0 then goalE m else consE m) else varsE m.vars

theorem firstE_append (a b : List Int) : firstE (a ++ b) = if firstE a = 0 then firstE b else firstE a := by
  induction a with
  | nil => simp [firstE]
  | cons e r ih =>
    simp only [List.cons_append, firstE]
    by_cases h : e = 0
    · simp only [h, if_true]; exact ih
    · simp only [h, if_false]
theorem range_take_snoc (n k : Nat) (h : k < n) (f : Nat → Int) : ((List.range n).map f).take (k + 1) = ((List.range n).map f).take k ++ [f k] := by
  rw [List.take_add_one]; simp [h]
/-- Once an error is met it is the answer. -/
theorem firstE_hit (l : List Int) (k : Nat) (e : Int) (h0 : firstE (l.take k) = 0) (hk : l[k]? = some e) (he : e ≠ 0) : firstE l = e := by
  have hs : l = l.take k ++ l.drop k := (List.take_append_drop k l).symm
  rw [hs, firstE_append, if_pos h0]
  have hlt := (List.getElem?_eq_some_iff.1 hk).1
  rw [List.drop_eq_getElem_cons hlt]
  have : l[k] = e := by rw [List.getElem?_eq_getElem hlt] at hk; exact Option.some.inj hk
  rw [this, firstE, if_neg he]
theorem firstE_step (l : List Int) (k : Nat) (h0 : firstE (l.take k) = 0) (hk : l[k]? = some 0) : firstE (l.take (k + 1)) = 0 := by
  rw [List.take_add_one, hk, firstE_append, if_pos h0]; rfl
theorem firstE_all (l : List Int) (h : firstE l = 0) : ∀ e ∈ l, e = 0 := by
  induction l with
  | nil => intro e he; cases he
  | cons a r ih =>
    unfold firstE at h
    by_cases h0 : a = 0
    · rw [if_pos h0] at h
      intro e he
      rcases List.mem_cons.1 he with rfl | he
      · exact h0
      · exact ih h e he
    · rw [if_neg h0] at h; exact absurd h h0
theorem checkM_vars (m : Mod) (h : checkM m = 0) : 1 ≤ m.vars.length ∧ m.vars.length ≤ 6 ∧ m.cons.length ≤ 8 ∧ varsE m.vars = 0 ∧ consE m = 0 ∧ goalE m = 0 := by
  unfold checkM at h
  by_cases h0 : m.vars.length = 0
  · rw [if_pos h0] at h; cases h
  · rw [if_neg h0] at h
    by_cases h1 : 6 < m.vars.length ∨ 8 < m.cons.length
    · rw [if_pos h1] at h; cases h
    · rw [if_neg h1] at h
      by_cases h2 : varsE m.vars = 0
      · rw [if_pos h2] at h
        by_cases h3 : consE m = 0
        · rw [if_pos h3] at h; exact ⟨by omega, by omega, by omega, h2, h3, h⟩
        · rw [if_neg h3] at h; exact absurd h h3
      · rw [if_neg h2] at h; exact absurd h h2
theorem varE_ok (vs : List MVar) (v : MVar) (h : varE vs v = 0) : -50 ≤ v.lo ∧ v.hi ≤ 50 ∧ v.lo ≤ v.hi ∧ v.hi - v.lo + 1 ≤ 6 := by
  unfold varE at h
  split at h
  · split at h
    · cases h
    · split at h
      · rename_i h1
        simp only [inB, Bool.and_eq_true, decide_eq_true_eq, Bool.not_eq_true', decide_eq_false_iff_not] at h1
        split at h
        · cases h
        · omega
      · cases h
  · cases h
theorem var_ok (m : Mod) (h : checkM m = 0) (i : Nat) (v : MVar) (hv : m.vars[i]? = some v) : -50 ≤ v.lo ∧ v.hi ≤ 50 ∧ v.lo ≤ v.hi ∧ v.hi - v.lo + 1 ≤ 6 := by
  have h1 := (checkM_vars m h).2.2.2.1
  have h2 := firstE_all _ h1 (varE (m.vars.take i) v) (by
    have hi : i < m.vars.length := (List.getElem?_eq_some_iff.1 hv).1
    refine List.mem_map.2 ⟨i, List.mem_range.2 hi, ?_⟩
    rw [List.getD_eq_getElem?_getD, hv]; rfl)
  exact varE_ok _ _ h2
theorem con_ok (m : Mod) (h : checkM m = 0) (i : Nat) (c : MCon) (hc : m.cons[i]? = some c) : conE m.vars.length c = 0 := by
  have h1 := (checkM_vars m h).2.2.2.2.1
  exact firstE_all _ h1 _ (List.mem_map.2 ⟨c, List.mem_of_getElem? hc, rfl⟩)
/-- Does a literal hold of a value? -/
def litV (x : Int) (l : MLit) : Bool :=
  if l.op = 1 then decide (x ≤ l.n) else if l.op = 2 then decide (l.n ≤ x) else if l.op = 3 then x == l.n else if l.op = 4 then x != l.n else false
end Go.Proofs.YtggkbhafbhhhhabGreatDoor
