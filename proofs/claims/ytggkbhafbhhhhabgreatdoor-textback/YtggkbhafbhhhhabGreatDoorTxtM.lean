/-
  A constraint that is being read, in memory.
-/
import Derived.Test.YtggkbhafbhhhhabGreatDoorTxtL
namespace Go.Proofs.YtggkbhafbhhhhabGreatDoor
open Go.RowKit

theorem own_set {w : World} {B : Nat} {e t : TypeId} {size n : Nat} {v : Value} {xs : List Value} (h : w.ownsRow B e size v n xs) {C : Nat} {cs : Array Value} (hC : w.heap[C]? = some (.cells cs t)) (ht : t ≠ e) (i : Nat) (u : Value) : (w.setCell ⟨C, i, none⟩ u).ownsRow B e size v n xs := by
  refine ⟨h.1, ?_⟩
  rcases h.2 with hn | ⟨g, cap, cur, hv, hg, hh, r⟩
  · exact .inl hn
  · have hne : g ≠ C := by
      intro e1
      rw [e1, hC] at hh
      injection hh with h1
      injection h1 with _ h2
      exact ht h2
    exact .inr ⟨g, cap, cur, hv, hg, (Below.heap_setCell _ _ _ _ hne).trans hh, r⟩
theorem LSr.set {B base : Nat} {t : TypeId} {w : World} {v : Value} {acc : List (List Int)} (h : LSr B base w v acc) {C : Nat} {cs : Array Value} (hC : w.heap[C]? = some (.cells cs t)) (ht : t ≠ 3) (ht2 : t ≠ 50) (i : Nat) (u : Value) : LSr B base (w.setCell ⟨C, i, Option.none⟩ u) v acc := by
  obtain ⟨cells, h1, h2⟩ := h
  refine ⟨cells, own_set h1 hC ht2 i u, fun j r hr => ?_⟩
  obtain ⟨x, hx, ho⟩ := h2 j r hr
  exact ⟨x, hx, own_set ho hC ht i u⟩
theorem LSr.mono {B base base' : Nat} {w : World} {v : Value} {acc : List (List Int)} (h : LSr B base w v acc) (hb : base' ≤ base) : LSr B base' w v acc := by
  obtain ⟨cells, h1, h2⟩ := h
  exact ⟨cells, own_mono9 h1 hb, h2⟩
/-- The lists of a constraint, made above a block. -/
def ConR (B : Nat) (w : World) (vv vc vr vl : Value) (c : MCon) : Prop :=
  w.ownsRow B 3 1 vv c.vars.length (c.vars.map (Value.int .i64)) ∧ w.ownsRow B 3 1 vc c.consts.length (c.consts.map (Value.int .i64)) ∧ LSr B B w vr c.rows ∧ w.ownsRow B 76 3 vl c.lits.length (c.lits.flatMap litC)
theorem ConR.set {B : Nat} {w : World} {vv vc vr vl : Value} {c : MCon} (h : ConR B w vv vc vr vl c) {C : Nat} {cs : Array Value} (hC : w.heap[C]? = some (.cells cs 54)) (i : Nat) (u : Value) : ConR B (w.setCell ⟨C, i, Option.none⟩ u) vv vc vr vl c :=
  ⟨own_set h.1 hC (by decide) i u, own_set h.2.1 hC (by decide) i u, h.2.2.1.set hC (by decide) (by decide) i u, own_set h.2.2.2 hC (by decide) i u⟩
theorem ConR.fr {X : Nat → Prop} {B : Nat} {w w' : World} {vv vc vr vl : Value} {c : MCon} (h : ConR B w vv vc vr vl c) (hf : Fr X w w') (hX : ∀ k, X k → k < B) : ConR B w' vv vc vr vl c :=
  ⟨own_fr h.1 hf hX, own_fr h.2.1 hf hX, h.2.2.1.fr hf hX hX, own_fr h.2.2.2 hf hX⟩
theorem ConR.mono {B B' : Nat} {w : World} {vv vc vr vl : Value} {c : MCon} (h : ConR B w vv vc vr vl c) (hb : B' ≤ B) : ConR B' w vv vc vr vl c := by
  obtain ⟨h1, h2, ⟨cells, h3, h4⟩, h5⟩ := h
  refine ⟨own_mono9 h1 hb, own_mono9 h2 hb, ⟨cells, own_mono9 h3 hb, fun i r hr => ?_⟩, own_mono9 h5 hb⟩
  obtain ⟨x, hx, ho⟩ := h4 i r hr
  exact ⟨x, hx, own_mono9 ho hb⟩
theorem ConR.none (B : Nat) (w : World) (k : Int) : ConR B w (.slice Option.none 0 0) (.slice Option.none 0 0) (.slice Option.none 0 0) (.slice Option.none 0 0) ⟨k, [], [], 0, [], []⟩ :=
  ⟨World.ownsRow_nil _ _ _ _, World.ownsRow_nil _ _ _ _, LSr.none _ _ _, World.ownsRow_nil _ _ _ _⟩
/-- What is so while a constraint is read. -/
structure ConS (N R M : Nat) (en : Int) (names : List ByteArray) (w0 : World) (C : Nat) (w : World) (q : List Tok) (vv vc vr vl : Value) (c : MCon) : Prop where
  rd : Rd N R M en w q
  fr : Fr (fun k => k = R) w0 w
  nm : NmS w M names
  res : w.heap[w0.heap.size]? = some (.cells #[.int .i64 0, .slice none 0 0, .slice none 0 0, .int .i64 0, .slice none 0 0, .slice none 0 0] 54)
  con : w.heap[C]? = some (.cells #[.int .i64 c.kind, vv, vc, .int .i64 c.n, vr, vl] 54)
  lt : w0.heap.size < C
  Rw : R < w0.heap.size
  Nw : N ≤ w0.heap.size
  Mw : M < w0.heap.size
  own : ConR w0.heap.size w vv vc vr vl c
section
variable {N R M : Nat} {en : Int} {names : List ByteArray} {w0 : World} {C : Nat} {w w' : World} {q q' : List Tok} {vv vc vr vl : Value} {c : MCon}
theorem ConS.call (h : ConS N R M en names w0 C w q vv vc vr vl c) (hf : Fr (fun k => k = R) w w') (hrd : Rd N R M en w' q') : ConS N R M en names w0 C w' q' vv vc vr vl c where
  rd := hrd
  fr := h.fr.trans hf
  nm := h.nm.old (hf.block M h.nm.lt hrd.1.2.2)
  res := (hf.block _ (Array.getElem?_eq_some_iff.1 h.res).1 (by have := h.Rw; omega)).trans h.res
  con := (hf.block _ (Array.getElem?_eq_some_iff.1 h.con).1 (by have := h.Rw; have := h.lt; omega)).trans h.con
  lt := h.lt
  Rw := h.Rw
  Nw := h.Nw
  Mw := h.Mw
  own := h.own.fr hf (fun k hk => by subst hk; exact h.Rw)
theorem ConS.below (h : ConS N R M en names w0 C w q vv vc vr vl c) (hb : Below w.heap.size w w') : ConS N R M en names w0 C w' q vv vc vr vl c := h.call (Fr.below hb) (h.rd.below hb)
theorem ConS.base (h : ConS N R M en names w0 C w q vv vc vr vl c) : w0.heap.size ≤ w.heap.size := h.fr.size
theorem ConS.put (h : ConS N R M en names w0 C w q vv vc vr vl c) (i : Nat) (u : Value) (vv' vc' vr' vl' : Value) (c' : MCon) (hcs : (#[.int .i64 c.kind, vv, vc, .int .i64 c.n, vr, vl] : Array Value).setIfInBounds i u = #[.int .i64 c'.kind, vv', vc', .int .i64 c'.n, vr', vl'])
    (ho : ConR w0.heap.size w vv' vc' vr' vl' c') : ConS N R M en names w0 C (w.setCell ⟨C, i, none⟩ u) q vv' vc' vr' vl' c' where
  rd := h.rd.set (p := ⟨C, i, none⟩) (by have := h.Rw; have := h.lt; show C ≠ R; omega) (by have := h.Nw; have := h.lt; show N ≤ C; omega) u
  fr := h.fr.setNew (p := ⟨C, i, none⟩) (Nat.le_of_lt h.lt) u
  nm := h.nm.old (Below.heap_setCell _ _ _ _ (by have := h.Mw; have := h.lt; show M ≠ C; omega))
  res := (Below.heap_setCell _ _ _ _ (by have := h.lt; show w0.heap.size ≠ C; omega)).trans h.res
  con := by rw [heap_setCell_same w C i _ _ _ h.con, hcs]
  lt := h.lt
  Rw := h.Rw
  Nw := h.Nw
  Mw := h.Mw
  own := ho.set h.con i u
theorem ConS.vars (h : ConS N R M en names w0 C w q vv vc vr vl c) {v : Value} {xs : List Int} (ho : w.ownsRow w0.heap.size 3 1 v xs.length (xs.map (Value.int .i64))) : ConS N R M en names w0 C (w.setCell ⟨C, 1, none⟩ v) q v vc vr vl { c with vars := xs } :=
  h.put 1 v v vc vr vl { c with vars := xs } rfl ⟨ho, h.own.2.1, h.own.2.2.1, h.own.2.2.2⟩
theorem ConS.consts (h : ConS N R M en names w0 C w q vv vc vr vl c) {v : Value} {xs : List Int} (ho : w.ownsRow w0.heap.size 3 1 v xs.length (xs.map (Value.int .i64))) : ConS N R M en names w0 C (w.setCell ⟨C, 2, none⟩ v) q vv v vr vl { c with consts := xs } :=
  h.put 2 v vv v vr vl { c with consts := xs } rfl ⟨h.own.1, ho, h.own.2.2.1, h.own.2.2.2⟩
theorem ConS.n (h : ConS N R M en names w0 C w q vv vc vr vl c) (n : Int) : ConS N R M en names w0 C (w.setCell ⟨C, 3, none⟩ (.int .i64 n)) q vv vc vr vl { c with n := n } :=
  h.put 3 _ vv vc vr vl { c with n := n } rfl h.own
theorem ConS.rows (h : ConS N R M en names w0 C w q vv vc vr vl c) {v : Value} {xs : List (List Int)} (ho : LSr w0.heap.size w0.heap.size w v xs) : ConS N R M en names w0 C (w.setCell ⟨C, 4, none⟩ v) q vv vc v vl { c with rows := xs } :=
  h.put 4 v vv vc v vl { c with rows := xs } rfl ⟨h.own.1, h.own.2.1, ho, h.own.2.2.2⟩
theorem ConS.lits (h : ConS N R M en names w0 C w q vv vc vr vl c) {v : Value} {xs : List MLit} (ho : w.ownsRow w0.heap.size 76 3 v xs.length (xs.flatMap litC)) : ConS N R M en names w0 C (w.setCell ⟨C, 5, none⟩ v) q vv vc vr v { c with lits := xs } :=
  h.put 5 v vv vc vr v { c with lits := xs } rfl ⟨h.own.1, h.own.2.1, h.own.2.2.1, ho⟩
theorem ConS.varsLit (h : ConS N R M en names w0 C w q vv vc vr vl c) (xs : List Int) (hx : xs.length ≤ 100) : ConS N R M en names w0 C ((w.setCell ⟨C, 1, none⟩ (.slice (some ⟨w.heap.size, 0, none⟩) xs.length xs.length)).alloc (.cells (xs.map (Value.int .i64)).toArray 3)) q (.slice (some ⟨w.heap.size, 0, none⟩) xs.length xs.length) vc vr vl { c with vars := xs } := by
  rw [← World.setCell_alloc_past _ _ _ _ (Array.getElem?_eq_some_iff.1 h.con).1]
  refine (h.below (below_alloc _ _)).vars ?_
  have := World.ownsRow_lit (e := 3) (size := 1) w (xs.map (Value.int .i64)).toArray xs.length h.base (by unfold maxLen; omega) (by simp)
  simpa using this
theorem ConS.litLit (h : ConS N R M en names w0 C w q vv vc vr vl c) (x : MLit) : ConS N R M en names w0 C ((w.setCell ⟨C, 5, none⟩ (.slice (some ⟨w.heap.size, 0, none⟩) 1 1)).alloc (.cells #[.int .i64 x.var, .int .i64 x.op, .int .i64 x.n] 76)) q vv vc vr (.slice (some ⟨w.heap.size, 0, none⟩) 1 1) { c with lits := [x] } := by
  rw [← World.setCell_alloc_past _ _ _ _ (Array.getElem?_eq_some_iff.1 h.con).1]
  refine (h.below (below_alloc _ _)).lits (xs := [x]) ?_
  exact World.ownsRow_lit (e := 76) (size := 3) w #[.int .i64 x.var, .int .i64 x.op, .int .i64 x.n] 1 h.base (by unfold maxLen; omega) (by simp)
theorem blk_put {w : World} {D : Nat} {t : TypeId} (h : ∃ cs, w.heap[D]? = some (.cells cs t)) (i : Nat) (u : Value) : ∃ cs, (w.setCell ⟨D, i, none⟩ u).heap[D]? = some (.cells cs t) := by
  obtain ⟨cs, h⟩ := h
  exact ⟨_, heap_setCell_same w D i _ _ _ h⟩
/-- Reader, frame and lists, once the result has been written. -/
theorem ConS.endd (h : ConS N R M en names w0 C w q vv vc vr vl c) (u0 u1 u2 u3 u4 u5 : Value) (W : World)
    (hW : W = (((((w.setCell ⟨w0.heap.size, 0, none⟩ u0).setCell ⟨w0.heap.size, 1, none⟩ u1).setCell ⟨w0.heap.size, 2, none⟩ u2).setCell ⟨w0.heap.size, 3, none⟩ u3).setCell ⟨w0.heap.size, 4, none⟩ u4).setCell ⟨w0.heap.size, 5, none⟩ u5) :
    ConR w0.heap.size W vv vc vr vl c ∧ Rd N R M en W q ∧ Fr (fun k => k = R) w0 W := by
  subst hW
  have hne : w0.heap.size ≠ R := by have := h.Rw; omega
  have k0 : ∃ cs, w.heap[w0.heap.size]? = some (.cells cs 54) := ⟨_, h.res⟩
  have k1 := blk_put k0 0 u0
  have k2 := blk_put k1 1 u1
  have k3 := blk_put k2 2 u2
  have k4 := blk_put k3 3 u3
  have k5 := blk_put k4 4 u4
  refine ⟨?_, ?_, ?_⟩
  · exact (((((h.own.set k0.choose_spec 0 u0).set k1.choose_spec 1 u1).set k2.choose_spec 2 u2).set k3.choose_spec 3 u3).set k4.choose_spec 4 u4).set k5.choose_spec 5 u5
  · exact (((((h.rd.set (p := ⟨w0.heap.size, 0, none⟩) hne h.Nw _).set (p := ⟨w0.heap.size, 1, none⟩) hne h.Nw _).set (p := ⟨w0.heap.size, 2, none⟩) hne h.Nw _).set (p := ⟨w0.heap.size, 3, none⟩) hne h.Nw _).set (p := ⟨w0.heap.size, 4, none⟩) hne h.Nw _).set (p := ⟨w0.heap.size, 5, none⟩) hne h.Nw _
  · exact (((((h.fr.setNew (p := ⟨w0.heap.size, 0, none⟩) (Nat.le_refl _) _).setNew (p := ⟨w0.heap.size, 1, none⟩) (Nat.le_refl _) _).setNew (p := ⟨w0.heap.size, 2, none⟩) (Nat.le_refl _) _).setNew (p := ⟨w0.heap.size, 3, none⟩) (Nat.le_refl _) _).setNew (p := ⟨w0.heap.size, 4, none⟩) (Nat.le_refl _) _).setNew (p := ⟨w0.heap.size, 5, none⟩) (Nat.le_refl _) _
end
end Go.Proofs.YtggkbhafbhhhhabGreatDoor
