/-
  PLAIN: how long what is printed is.
-/
import Derived.Test.YtggkbhafbhhhhabGreatDoorBakPlain
namespace Go.Proofs.YtggkbhafbhhhhabGreatDoor
open Go
/-- How long things are. -/
theorem tail_len (xs : List ByteArray) (sep : List UInt8) (s : Nat) (h : ∀ x ∈ xs, x.size ≤ s) : (Lib.joinTail sep (xs.map (·.data.toList))).length ≤ xs.length * (s + sep.length) := by
  induction xs with
  | nil => simp [Lib.joinTail]
  | cons x r ih =>
    have h1 := ih fun y hy => h y (List.mem_cons_of_mem _ hy)
    have h2 := h x (List.mem_cons_self ..)
    have e : Lib.joinTail sep ((x :: r).map (·.data.toList)) = sep ++ x.data.toList ++ Lib.joinTail sep (r.map (·.data.toList)) := by simp [Lib.joinTail]
    rw [e, List.length_append, List.length_append, len_size, List.length_cons, Nat.succ_mul]
    omega
theorem join_len (xs : List ByteArray) (sep : List UInt8) (s : Nat) (h : ∀ x ∈ xs, x.size ≤ s) : (joinB xs sep).length ≤ xs.length * (s + sep.length) := by
  unfold joinB
  cases xs with
  | nil => simp [Lib.join_nil]
  | cons x r =>
    have h1 := tail_len r sep s fun y hy => h y (List.mem_cons_of_mem _ hy)
    have h2 := h x (List.mem_cons_self ..)
    rw [List.map_cons, Lib.join_cons, List.length_append, len_size, List.length_cons, Nat.succ_mul]
    omega
theorem brack_size (xs : List ByteArray) (s k : Nat) (h : ∀ x ∈ xs, x.size ≤ s) (hk : xs.length ≤ k) : (brackB xs).size ≤ k * (s + 2) + 2 := by
  rw [← len_size, brack_bytes]
  have h1 : (joinB xs [44, 32]).length ≤ xs.length * (s + 2) := join_len xs [44, 32] s h
  have h2 : xs.length * (s + 2) ≤ k * (s + 2) := Nat.mul_le_mul_right _ hk
  simp only [List.length_cons, List.length_append, List.length_nil]
  omega
theorem num_size (n : Int) (h : -9999 ≤ n ∧ n ≤ 9999) : (numB n).size ≤ 5 := by
  have e : (numB n).data.toList = Lib.itoa n := by simp [numB]
  rw [← len_size, e]
  unfold Lib.itoa
  split
  · have := dec_len 3 n.natAbs (by omega)
    simp; omega
  · have := dec_len 3 n.toNat (by omega)
    omega
theorem op_size (op : Int) (h : 1 ≤ op ∧ op ≤ 4) : (opWB op).size ≤ 2 := by
  have : op = 1 ∨ op = 2 ∨ op = 3 ∨ op = 4 := by omega
  rcases this with rfl | rfl | rfl | rfl <;> decide
theorem con_size (k : Int) (h : 1 ≤ k ∧ k ≤ 10) : (conWB k).size ≤ 12 := by
  have : k = 1 ∨ k = 2 ∨ k = 3 ∨ k = 4 ∨ k = 5 ∨ k = 6 ∨ k = 7 ∨ k = 8 ∨ k = 9 ∨ k = 10 := by omega
  rcases this with rfl | rfl | rfl | rfl | rfl | rfl | rfl | rfl | rfl | rfl <;> decide
/-- No name is long. -/
def Short (vars : List MVar) : Prop := ∀ x ∈ vars, x.name.size ≤ 12
theorem short_name {vars : List MVar} (h : Short vars) (i : Int) : (nameOf vars i).size ≤ 12 := by
  unfold nameOf
  rw [List.getD_eq_getElem?_getD]
  cases hv : vars[i.toNat]? with
  | none => decide
  | some v => exact h v (List.mem_of_getElem? hv)
theorem tok1_size {s : ByteArray} (h : isTok 1 s = true) : s.size ≤ 12 := by
  have := ((isTok_iff _ _).1 h).2.2.2.2.2
  unfold errOf at this
  rw [if_pos rfl] at this
  split at this
  · cases this
  · omega
theorem names_short {vars : List MVar} (h : NamesOk vars) : Short vars := by
  intro v hv
  have := h.1 v hv
  unfold isNameB at this
  rw [Bool.and_eq_true] at this
  exact tok1_size this.1
theorem lit_size {vars : List MVar} (h : Short vars) {t : MLit} (ht : LitOk vars t) : (litB vars t).size ≤ 21 := by
  rw [← len_size, lit_bytes]
  have h1 := short_name h t.var
  have h2 := op_size t.op ht.2.1
  have h3 := num_size t.n (by have := ht.2.2; omega)
  simp only [List.length_append, List.length_cons, len_size]
  omega
theorem nums_size (l : List Int) (k : Nat) (hk : l.length ≤ k) (h : ∀ x ∈ l, -1000 ≤ x ∧ x ≤ 1000) : (numsB l).size ≤ k * 7 + 2 := brack_size _ 5 k (fun x hx => by
  obtain ⟨n, hn, rfl⟩ := List.mem_map.1 hx
  exact num_size n (by have := h n hn; omega)) (by simpa using hk)
theorem nameL_size {vars : List MVar} (h : Short vars) (l : List Int) (k : Nat) (hk : l.length ≤ k) : (brackB (l.map (nameOf vars))).size ≤ k * 14 + 2 := brack_size _ 12 k (fun x hx => by
  obtain ⟨n, hn, rfl⟩ := List.mem_map.1 hx
  exact short_name h n) (by simpa using hk)
theorem many_no {c : MCon} (h : manyB c = false) : c.vars.length ≤ 4 ∧ c.lits.length ≤ 4 ∧ c.consts.length ≤ 8 ∧ c.rows.length ≤ 20 := by
  simp only [manyB, Bool.or_eq_false_iff, decide_eq_false_iff_not] at h
  omega
theorem row_len {n : Nat} {c : MCon} (hc : ConOk n c) (hk : c.kind = 6) : ∀ r ∈ c.rows, r.length ≤ 4 := by
  have hf := hc.form
  unfold formB at hf
  rw [hk] at hf
  simp at hf
  intro r hr
  have := hf.2.2.2 r hr
  have := many_no hc.many
  omega
theorem rows_size {n : Nat} {c : MCon} (hc : ConOk n c) (hk : c.kind = 6) : (brackB (c.rows.map numsB)).size ≤ 700 := by
  have := brack_size (c.rows.map numsB) 30 20 (fun x hx => by
    obtain ⟨r, hr, rfl⟩ := List.mem_map.1 hx
    exact nums_size r 4 (row_len hc hk r hr) (hc.rows r hr)) (by simpa using (many_no hc.many).2.2.2)
  omega
theorem litL_size {vars : List MVar} (h : Short vars) {c : MCon} (hc : ConOk vars.length c) : (brackB (c.lits.map (litB vars))).size ≤ 100 := by
  have := brack_size (c.lits.map (litB vars)) 21 4 (fun x hx => by
    obtain ⟨t, ht, rfl⟩ := List.mem_map.1 hx
    exact lit_size h (hc.lits t ht)) (by simpa using (many_no hc.many).2.1)
  omega
theorem parts_size {vars : List MVar} (h : Short vars) {c : MCon} (hc : ConOk vars.length c) : (partsB vars c).length ≤ 3 ∧ ∀ x ∈ partsB vars c, x.size ≤ 1000 := by
  have hm := many_no hc.many
  have h1 := nums_size c.consts 8 hm.2.2.1 hc.consts
  have h2 := nameL_size h c.vars 4 hm.1
  have h3 := num_size c.n (by have := hc.num; omega)
  have h4 := litL_size h hc
  have hn := short_name h
  obtain ⟨f5, f7, f8, f10⟩ := form_len c hc.form
  unfold partsB
  split
  · simp only [List.forall_mem_cons, List.not_mem_nil, false_imp_iff, implies_true, and_true, List.length_cons, List.length_nil]
    omega
  split
  · simp only [List.forall_mem_cons, List.not_mem_nil, false_imp_iff, implies_true, and_true, List.length_cons, List.length_nil]
    omega
  split
  · simp only [List.forall_mem_cons, List.not_mem_nil, false_imp_iff, implies_true, and_true, List.length_cons, List.length_nil]
    have a1 := hn (c.vars.getD 0 0)
    have a2 := hn (c.vars.getD 1 0)
    omega
  split
  · rename_i hk
    have := rows_size hc hk
    simp only [List.forall_mem_cons, List.not_mem_nil, false_imp_iff, implies_true, and_true, List.length_cons, List.length_nil]
    omega
  split
  · simp only [List.forall_mem_cons, List.not_mem_nil, false_imp_iff, implies_true, and_true, List.length_cons, List.length_nil]
    have a1 := hn (c.vars.getD 0 0)
    have a2 := hn (c.vars.getD 1 0)
    have a3 := hn (c.vars.getD 2 0)
    omega
  split
  · simp only [List.forall_mem_cons, List.not_mem_nil, false_imp_iff, implies_true, and_true, List.length_cons, List.length_nil]
    have a1 := hn (c.vars.getD 0 0)
    have a2 := nameL_size h (c.vars.drop 1) 4 (by simp; omega)
    omega
  split
  · simp only [List.forall_mem_cons, List.not_mem_nil, false_imp_iff, implies_true, and_true, List.length_cons, List.length_nil]
    omega
  split
  · rename_i hk
    have := f10 hk
    simp only [List.forall_mem_cons, List.not_mem_nil, false_imp_iff, implies_true, and_true, List.length_cons, List.length_nil]
    have a1 := hn (c.vars.getD 0 0)
    have a2 := lit_size h (hc.lits (c.lits.getD 0 ⟨0, 0, 0⟩) (by rw [List.getD_eq_getElem?_getD, List.getElem?_eq_getElem (show 0 < c.lits.length by omega)]; exact List.getElem_mem _))
    omega
  · exact ⟨by decide, fun x hx => by cases hx⟩
theorem conLine_len {vars : List MVar} (h : Short vars) {c : MCon} (hc : ConOk vars.length c) : (joinB ([conW, conWB c.kind] ++ partsB vars c) [32]).length ≤ 10000 ∧ (conLine vars c).length ≤ 10002 := by
  have h1 := parts_size h hc
  have h2 := join_len ([conW, conWB c.kind] ++ partsB vars c) [32] 1000 (by
    simp only [List.cons_append, List.nil_append, List.forall_mem_cons]
    exact ⟨by decide, by have := con_size c.kind hc.kind; omega, h1.2⟩)
  have h3 : ([conW, conWB c.kind] ++ partsB vars c).length ≤ 5 := by simp; omega
  have h4 : ([conW, conWB c.kind] ++ partsB vars c).length * (1000 + 1) ≤ 5 * (1000 + 1) := Nat.mul_le_mul_right _ h3
  have h5 : (joinB ([conW, conWB c.kind] ++ partsB vars c) [32]).length ≤ 10000 := by
    simp only [List.length_singleton] at h2
    omega
  refine ⟨h5, ?_⟩
  unfold conLine lineL
  rw [List.length_append]
  simp only [List.length_cons, List.length_nil]
  omega
theorem varLine_len {v : MVar} (h : VarOk v) : (joinB [varW, v.name ++ colW, numB v.lo ++ dotsW ++ numB v.hi] [32]).length ≤ 10000 ∧ (varLine v).length ≤ 10002 ∧ (numB v.lo).size ≤ 5 ∧ (numB v.hi).size ≤ 5 ∧ v.name.size ≤ 12 := by
  have h1 : v.name.size ≤ 12 := by have := h.1; unfold isNameB at this; rw [Bool.and_eq_true] at this; exact tok1_size this.1
  have h2 := num_size v.lo (by have := h.2; omega)
  have h3 := num_size v.hi (by have := h.2; omega)
  have h4 := join_len [varW, v.name ++ colW, numB v.lo ++ dotsW ++ numB v.hi] [32] 100 (by
    simp only [List.forall_mem_cons, List.not_mem_nil, false_imp_iff, implies_true, and_true, ByteArray.size_append]
    have e1 : colW.size = 1 := rfl
    have e2 : dotsW.size = 2 := rfl
    have e3 : varW.size = 3 := rfl
    omega)
  simp only [List.length_cons, List.length_nil] at h4
  refine ⟨by omega, ?_, h2, h3, h1⟩
  unfold varLine lineL
  rw [List.length_append]
  simp only [List.length_cons, List.length_nil]
  omega
theorem goalLine_len {m : Mod} (h : Short m.vars) (hg : GoalOk m) : (joinB [solveW, goalWB m.goal] [32]).length ≤ 10000 ∧ (joinB [solveW, goalWB m.goal, nameOf m.vars m.var] [32]).length ≤ 10000 ∧ (goalLine m).length ≤ 10002 := by
  have h1 := short_name h m.var
  have hw : (goalWB m.goal).size ≤ 12 := by
    have : m.goal = 0 ∨ m.goal = 1 ∨ m.goal = 2 := by unfold GoalOk at hg; omega
    rcases this with h | h | h <;> rw [h] <;> decide
  have hs : solveW.size = 5 := rfl
  have h4 := join_len [solveW, goalWB m.goal] [32] 100 (by
    simp only [List.forall_mem_cons, List.not_mem_nil, false_imp_iff, implies_true, and_true]
    omega)
  have h5 := join_len [solveW, goalWB m.goal, nameOf m.vars m.var] [32] 100 (by
    simp only [List.forall_mem_cons, List.not_mem_nil, false_imp_iff, implies_true, and_true]
    omega)
  simp only [List.length_cons, List.length_nil] at h4 h5
  refine ⟨by omega, by omega, ?_⟩
  unfold goalLine lineL
  split
  · rw [List.length_append]; simp only [List.length_cons, List.length_nil]; omega
  · rw [List.length_append]; simp only [List.length_cons, List.length_nil]; omega
end Go.Proofs.YtggkbhafbhhhhabGreatDoor
