/-
  PLAIN: how long the rows of a right store are. MEMORY: a store that is being built, row by row.
-/
import Derived.Test.YtggkbhafbhhhhabStoC
import Derived.Laws.OwnMore
namespace Go.Proofs.Ytggkbhafbhhhhab
open Go.RowKit

theorem rises_len (l : List Int) : ∀ (lo hi : Int), l.Pairwise (· < ·) → (∀ n ∈ l, lo ≤ n ∧ n ≤ hi) → (l.length : Int) ≤ max 0 (hi - lo + 1) := by
  induction l with
  | nil => intro lo hi _ _; simp; omega
  | cons a r ih =>
    intro lo hi hp hb
    have h1 := ih (a + 1) hi (List.pairwise_cons.1 hp).2 (fun n hn => by
      have := (List.pairwise_cons.1 hp).1 n hn
      have := hb n (List.mem_cons_of_mem _ hn)
      omega)
    have h2 := hb a (List.mem_cons_self ..)
    rw [List.length_cons]
    push_cast
    omega
theorem row_short (m : Mod) (s : Sto) (hm : checkM m = 0) (hs : checkV m.vars s = 0) (i : Nat) (r : List Int) (hr : s[i]? = some r) : r.length ≤ 6 := by
  obtain ⟨h1, h2, h3⟩ := (checkV_ok _ _).1 hs
  have hi : i < s.length := (List.getElem?_eq_some_iff.1 hr).1
  obtain ⟨v, hv⟩ : ∃ v, m.vars[i]? = some v := ⟨m.vars[i]'(by omega), by simp⟩
  have hvo := var_ok m hm i v hv
  have hin := (all_zip _ _ _).1 h2 i v r hv hr
  have hri := List.all_eq_true.1 h3 r (List.mem_of_getElem? hr)
  have := rises_len r v.lo v.hi ((rises_pair r).1 hri) (fun n hn => by
    have := List.all_eq_true.1 hin n hn
    simpa [insideB] using this)
  omega

/-- Numbers of one's own, as a list. -/
theorem own_ilist {w : World} {base : Nat} {v : Value} {r : List Int} (h : w.ownsRow base 3 1 v r.length (r.map (Value.int .i64))) : IArg w v r := by
  rcases h.2 with ⟨rfl, hn⟩ | ⟨g, cap, cur, rfl, hg, hh, hc1, hc2, _, _⟩
  · have : r = [] := List.eq_nil_of_length_eq_zero hn
    subst this
    exact ⟨none, 0, rfl, ⟨Nat.le_refl _, Nat.zero_le _⟩, fun i z hz => by simp at hz⟩
  · refine ⟨_, cap, rfl, ⟨hc1, hc2⟩, fun i z hz => ⟨g, 0, rfl, (Array.getElem?_eq_some_iff.1 hh).1, ?_⟩⟩
    have hi : i < r.length := (List.getElem?_eq_some_iff.1 hz).1
    rw [Nat.zero_add, h.cellAt i (by omega), List.getElem?_map, hz]; rfl

theorem own_mono {w : World} {base base' : Nat} {e : TypeId} {size : Nat} {v : Value} {n : Nat} {xs : List Value} (h : w.ownsRow base e size v n xs) (hb : base' ≤ base) : w.ownsRow base' e size v n xs := by
  refine ⟨h.1, ?_⟩
  rcases h.2 with hn | ⟨g, cap, cur, hv, hg, r⟩
  · exact .inl hn
  · exact .inr ⟨g, cap, cur, hv, Nat.le_trans hb hg, r⟩
/-- What is owned stays so where its block does. -/
theorem own_at {w w' : World} {base : Nat} {e : TypeId} {size : Nat} {v : Value} {n : Nat} {xs : List Value} (h : w.ownsRow base e size v n xs) (hk : ∀ g, v.ownBlock = some g → w'.heap[g]? = w.heap[g]?) : w'.ownsRow base e size v n xs := by
  refine ⟨h.1, ?_⟩
  rcases h.2 with hn | ⟨g, cap, cur, hv, hg, hh, r⟩
  · exact .inl hn
  · exact .inr ⟨g, cap, cur, hv, hg, by rw [hk g (by rw [hv]; rfl)]; exact hh, r⟩

/-- A store that is being built: its first k rows are made. -/
def SRows (w : World) (base B n : Nat) (cells : List Value) (M : Sto) (k : Nat) : Prop :=
  w.ownsRow base 62 1 (.slice (some ⟨B, 0, none⟩) n n) n cells ∧
  (∀ i r, i < k → M[i]? = some r → ∃ x, cells[i]? = some x ∧ w.ownsRow (B + 1) 3 1 x r.length (r.map (Value.int .i64))) ∧
  (∀ i, k ≤ i → i < n → cells[i]? = some (.slice none 0 0))
/-- .. and of row k so much as acc is made, above block K. -/
def SRowsIn (w : World) (base B n : Nat) (cells : List Value) (M : Sto) (k K : Nat) (acc : List Int) : Prop :=
  w.ownsRow base 62 1 (.slice (some ⟨B, 0, none⟩) n n) n cells ∧
  (∀ i r, i < k → M[i]? = some r → ∃ x, cells[i]? = some x ∧ w.ownsRow (B + 1) 3 1 x r.length (r.map (Value.int .i64)) ∧ ∀ g, x.ownBlock = some g → g < K) ∧
  (∃ x, cells[k]? = some x ∧ w.ownsRow K 3 1 x acc.length (acc.map (Value.int .i64))) ∧
  (∀ i, k < i → i < n → cells[i]? = some (.slice none 0 0)) ∧ B < K ∧ K ≤ w.heap.size ∧ k < n

theorem SRows.into {w : World} {base B n : Nat} {cells : List Value} {M : Sto} {k : Nat} (h : SRows w base B n cells M k) (hk : k < n) : SRowsIn w base B n cells M k w.heap.size [] := by
  obtain ⟨h1, h2, h3⟩ := h
  refine ⟨h1, fun i r hi hr => ?_, ⟨_, h3 k (Nat.le_refl _) hk, World.ownsRow_nil _ _ _ _⟩, fun i hi hn => h3 i (by omega) hn, (h1.lt B rfl).2, Nat.le_refl _, hk⟩
  obtain ⟨x, hx, ho⟩ := h2 i r hi hr
  exact ⟨x, hx, ho, fun g hg => (ho.lt g hg).2⟩
theorem SRowsIn.done {w : World} {base B n : Nat} {cells : List Value} {M : Sto} {k K : Nat} {acc : List Int} (h : SRowsIn w base B n cells M k K acc) (hM : M[k]? = some acc) : SRows w base B n cells M (k + 1) := by
  obtain ⟨h1, h2, ⟨x, hx, ho⟩, h4, h5, _, _⟩ := h
  refine ⟨h1, fun i r hi hr => ?_, fun i hi hn => h4 i (by omega) hn⟩
  by_cases hik : i < k
  · obtain ⟨y, hy, hoy, _⟩ := h2 i r hik hr
    exact ⟨y, hy, hoy⟩
  · obtain rfl : i = k := by omega
    rw [hM] at hr; cases hr
    exact ⟨x, hx, own_mono ho (by omega)⟩
theorem SRowsIn.kept {w w' : World} {base B n : Nat} {cells : List Value} {M : Sto} {k K : Nat} {acc : List Int} (h : SRowsIn w base B n cells M k K acc) (hb : Below w.heap.size w w') : SRowsIn w' base B n cells M k K acc := by
  obtain ⟨h1, h2, ⟨x, hx, ho⟩, h4, h5, h6, h7⟩ := h
  refine ⟨own_below h1 hb, fun i r hi hr => ?_, ⟨x, hx, own_below ho hb⟩, h4, h5, Nat.le_trans h6 hb.size, h7⟩
  obtain ⟨y, hy, hoy, hg⟩ := h2 i r hi hr
  exact ⟨y, hy, own_below hoy hb, hg⟩
theorem SRows.kept {w w' : World} {base B n : Nat} {cells : List Value} {M : Sto} {k : Nat} (h : SRows w base B n cells M k) (hb : Below w.heap.size w w') : SRows w' base B n cells M k := by
  obtain ⟨h1, h2, h3⟩ := h
  refine ⟨own_below h1 hb, fun i r hi hr => ?_, h3⟩
  obtain ⟨y, hy, hoy⟩ := h2 i r hi hr
  exact ⟨y, hy, own_below hoy hb⟩
/-- One more number: 'w' is the world ahead of append, 'w3' the one behind it. -/
theorem SRowsIn.push {w w3 : World} {base B n : Nat} {cells : List Value} {M : Sto} {k K : Nat} {acc : List Int} {x v3 : Value} {z : Int} (h : SRowsIn w base B n cells M k K acc) (hx : cells[k]? = some x)
    (ho : w3.ownsRow K 3 1 v3 (acc ++ [z]).length ((acc ++ [z]).map (Value.int .i64))) (hg : w.grownBy w3 x.ownBlock) :
    SRowsIn (w3.setCell ⟨B, k, none⟩ v3) base B n (cells.set k v3) M k K (acc ++ [z]) := by
  obtain ⟨h1, h2, ⟨y, hy, hoy⟩, h4, h5, h6, h7⟩ := h
  rw [hx] at hy; cases hy
  have hxK : ∀ g, x.ownBlock = some g → K ≤ g := fun g hg => (hoy.lt g hg).1
  have hB : B < w.heap.size := (h1.lt B rfl).2
  have hne : some B ≠ x.ownBlock := fun h => by have := hxK B h.symm; omega
  have h13 : w3.ownsRow base 62 1 (.slice (some ⟨B, 0, none⟩) n n) n cells := h1.kept hg (Or.inr hne)
  have hlen : cells.length = n := by have := h1.1; omega
  refine ⟨(h13.stored k v3).1, fun i r hi hr => ?_, ⟨v3, by rw [List.getElem?_set_self (by omega)], ?_⟩, fun i hi hn => by rw [List.getElem?_set_ne (by omega)]; exact h4 i hi hn, h5, ?_, h7⟩
  · obtain ⟨y, hy, hoy2, hgy⟩ := h2 i r hi hr
    refine ⟨y, by rw [List.getElem?_set_ne (by omega)]; exact hy, ?_, hgy⟩
    have h23 : w3.ownsRow (B + 1) 3 1 y r.length (r.map (Value.int .i64)) := by
      refine hoy2.kept hg ?_
      cases hyb : y.ownBlock with
      | none => exact Or.inl rfl
      | some g =>
        refine Or.inr fun he => ?_
        have := hxK g he.symm
        have := hgy g hyb
        omega
    refine own_at h23 fun g hg2 => Below.heap_setCell _ _ _ _ ?_
    have := (hoy2.lt g hg2).1
    simp only; omega
  · refine own_at ho fun g hg2 => Below.heap_setCell _ _ _ _ ?_
    have := (ho.lt g hg2).1
    simp only; omega
  · have := hg.size; simp; omega
theorem SRows.rarg {w : World} {base B n : Nat} {cells : List Value} {M : Sto} (h : SRows w base B n cells M n) (hM : M.length = n) : RArg w (.slice (some ⟨B, 0, none⟩) n n) M := by
  obtain ⟨h1, h2, _⟩ := h
  have hB : B < w.heap.size := (h1.lt B rfl).2
  have hmx : n ≤ maxLen := by
    rcases h1.2 with ⟨h', _⟩ | ⟨g, cap, cur, h', _, _, hc1, hc2, _⟩
    · cases h'
    · exact Nat.le_trans hc1 hc2
  refine ⟨_, n, by rw [hM], ⟨by omega, hmx⟩, fun i r hr => ?_⟩
  have hi : i < n := by rw [← hM]; exact (List.getElem?_eq_some_iff.1 hr).1
  obtain ⟨x, hx, ho⟩ := h2 i r hi hr
  exact ⟨B, 0, x, rfl, hB, by rw [Nat.zero_add, h1.cellAt i (by omega)]; exact hx, own_ilist ho⟩
end Go.Proofs.Ytggkbhafbhhhhab
