/-
  PART 19 of what the proof leans on (RfH, RcA, RcB, RcC).
-/
import Derived.Test.YtdjbejlbmaiocagGreatDoorPartR
import Derived.Deep.CutBlock
import Derived.Deep.DeepCutAuto
import Derived.Deep.RegionLaw
/-
  WALK: the reference's reader: Con. (Made by genrfh.py.)
-/
namespace Go.Proofs.YtdjbejlbmaiocagGreatDoor
open Go.RowKit

/-- Literals are appended to those of a constraint. -/
theorem ConT.pushLit {c : RC} {w0 w w' : World} {p : RP} {vv vc vr vl v' : Value} {k : MCon} {x : MLit} {n : Nat} (h : ConT c w0 w p vv vc vr vl k) (hg : (w.alloc (.cells #[.int .i64 x.var, .int .i64 x.op, .int .i64 x.n] 88)).grownBy w' vl.ownBlock) (hn : n = k.lits.length + 1) (ho : w'.ownsRow w0.heap.size 88 3 v' n (k.lits.flatMap litC ++ litC x)) :
    ConT c w0 (w'.setCell ⟨w0.heap.size + 1, 5, none⟩ v') p vv vc vr v' { k with lits := k.lits ++ [x] } ∧ w'.heap[w0.heap.size + 1]? = some (.cells #[.int .i64 k.kind, vv, vc, .int .i64 k.n, vr, vl] 73) := by
  have hv := h.own.2.2.2
  have hk := blk_grown (((below_alloc w _).block _ (Array.getElem?_eq_some_iff.1 h.con).1).trans h.con) hg (hv.alloc _) (by decide)
  have ho2 : w'.ownsRow w0.heap.size 88 3 v' (k.lits ++ [x]).length ((k.lits ++ [x]).flatMap litC) := by
    rw [List.length_append, List.length_singleton, ← hn, List.flatMap_append]; simpa using ho
  have o1 := (h.own.1.alloc (.cells #[.int .i64 x.var, .int .i64 x.op, .int .i64 x.n] 88)).kept hg (apart9 h.own.1 hv (by decide))
  have o2 := (h.own.2.1.alloc (.cells #[.int .i64 x.var, .int .i64 x.op, .int .i64 x.n] 88)).kept hg (apart9 h.own.2.1 hv (by decide))
  have o3 := h.own.2.2.1.kept hv (by decide) (by decide) hg
  refine ⟨⟨?_, ?_, ?_, ?_, h.Rw, h.Nw, h.NBw, ?_⟩, hk⟩
  · exact ((h.st.below (below_alloc _ _)).grown hg (fun j hj => by have h1 := (hv.lt j hj).1; have h2 := h.Rw; have h3 := h.Nw; have h4 := h.NBw; exact ⟨by omega, by omega, by omega⟩)).set (q := ⟨w0.heap.size + 1, 5, none⟩) (by have := h.Rw; show w0.heap.size + 1 ≠ c.R; omega) (by have := h.Nw; show c.N ≤ w0.heap.size + 1; omega) (by have := h.NBw; show c.NB ≤ w0.heap.size + 1; omega) _
  · exact ((h.fr.alloc _).grown hg (fun j hj => Or.inr ((hv.lt j hj).1))).setNew (p := ⟨w0.heap.size + 1, 5, none⟩) (by show w0.heap.size ≤ w0.heap.size + 1; omega) _
  · exact (Below.heap_setCell _ _ _ _ (by show w0.heap.size ≠ w0.heap.size + 1; omega)).trans (blk_grown (((below_alloc w _).block _ (Array.getElem?_eq_some_iff.1 h.res).1).trans h.res) hg (hv.alloc _) (by decide))
  · rw [heap_setCell_same w' _ 5 _ _ _ hk]; rfl
  · exact ConR.set (c := { k with lits := k.lits ++ [x] }) ⟨o1, o2, o3, ho2⟩ hk 5 v'
/-- A row is appended to those of a constraint. -/
theorem ConT.pushRow {c : RC} {w0 w w' : World} {p : RP} {vv vc vr vl v' xv : Value} {k : MCon} {x : List Int} {n : Nat} {cells : List Value} (h : ConT c w0 w p vv vc vr vl k) (h1 : w.ownsRow w0.heap.size 26 1 vr k.rows.length cells) (h2 : ∀ (i : Nat) (r : List Int), k.rows[i]? = some r → ∃ x, cells[i]? = some x ∧ w.ownsRow w0.heap.size 3 1 x r.length (r.map (Value.int .i64)))
    (hx : w.ownsRow w0.heap.size 3 1 xv x.length (x.map (Value.int .i64))) (hg : (w.alloc (.cells #[xv] 26)).grownBy w' vr.ownBlock) (hn : n = k.rows.length + 1) (ho : w'.ownsRow w0.heap.size 26 1 v' n (cells ++ [xv])) :
    ConT c w0 (w'.setCell ⟨w0.heap.size + 1, 4, none⟩ v') p vv vc v' vl { k with rows := k.rows ++ [x] } ∧ w'.heap[w0.heap.size + 1]? = some (.cells #[.int .i64 k.kind, vv, vc, .int .i64 k.n, vr, vl] 73) := by
  have hk := blk_grown (((below_alloc w _).block _ (Array.getElem?_eq_some_iff.1 h.con).1).trans h.con) hg (h1.alloc _) (by decide)
  have o3 : LSr w0.heap.size w0.heap.size w' v' (k.rows ++ [x]) := LSr.push h1 h2 hx (by rw [← hn]; exact ho) hg
  have o1 := (h.own.1.alloc (.cells #[xv] 26)).kept hg (apart9 h.own.1 h1 (by decide))
  have o2 := (h.own.2.1.alloc (.cells #[xv] 26)).kept hg (apart9 h.own.2.1 h1 (by decide))
  have o4 := (h.own.2.2.2.alloc (.cells #[xv] 26)).kept hg (apart9 h.own.2.2.2 h1 (by decide))
  refine ⟨⟨?_, ?_, ?_, ?_, h.Rw, h.Nw, h.NBw, ?_⟩, hk⟩
  · exact ((h.st.below (below_alloc _ _)).grown hg (fun j hj => by have h1 := (h1.lt j hj).1; have h2 := h.Rw; have h3 := h.Nw; have h4 := h.NBw; exact ⟨by omega, by omega, by omega⟩)).set (q := ⟨w0.heap.size + 1, 4, none⟩) (by have := h.Rw; show w0.heap.size + 1 ≠ c.R; omega) (by have := h.Nw; show c.N ≤ w0.heap.size + 1; omega) (by have := h.NBw; show c.NB ≤ w0.heap.size + 1; omega) _
  · exact ((h.fr.alloc _).grown hg (fun j hj => Or.inr ((h1.lt j hj).1))).setNew (p := ⟨w0.heap.size + 1, 4, none⟩) (by show w0.heap.size ≤ w0.heap.size + 1; omega) _
  · exact (Below.heap_setCell _ _ _ _ (by show w0.heap.size ≠ w0.heap.size + 1; omega)).trans (blk_grown (((below_alloc w _).block _ (Array.getElem?_eq_some_iff.1 h.res).1).trans h.res) hg (h1.alloc _) (by decide))
  · rw [heap_setCell_same w' _ 4 _ _ _ hk]; rfl
  · exact ConR.set (c := { k with rows := k.rows ++ [x] }) ⟨o1, o2, o3, o4⟩ hk 4 v'
/-- The row of one is lengthened, ahead of being stored. -/
theorem ConT.push8 {c : RC} {w0 w w' : World} {p : RP} {g : Nat} {v' : Value} {xs : List Int} {ys : List Value} (h : ConT c w0 w p (.slice none 0 0) (.slice none 0 0) (.slice none 0 0) (.slice none 0 0) ⟨8, [], [], 0, [], []⟩) (hr : w.ownsRow w0.heap.size 3 1 (.slice (some ⟨g, 0, none⟩) 1 1) 1 ys) (hg : w.grownBy w' (some g)) (ho : w'.ownsRow w0.heap.size 3 1 v' xs.length (xs.map (Value.int .i64))) :
    ConT c w0 (w'.setCell ⟨w0.heap.size + 1, 1, none⟩ v') p v' (.slice none 0 0) (.slice none 0 0) (.slice none 0 0) ⟨8, xs, [], 0, [], []⟩ ∧ w'.heap[w0.heap.size + 1]? = some (.cells #[.int .i64 8, .slice none 0 0, .slice none 0 0, .int .i64 0, .slice none 0 0, .slice none 0 0] 73) := by
  have hgl := (hr.lt g rfl).1
  have e1 : w0.heap.size + 1 ≠ g := row_ne_cells hr h.con (by decide)
  have e2 : w0.heap.size ≠ g := row_ne_cells hr h.res (by decide)
  have hcon := (hg.block _ (Array.getElem?_eq_some_iff.1 h.con).1 (fun e => e1 (Option.some.inj e))).trans h.con
  have hT : ConT c w0 w' p (.slice none 0 0) (.slice none 0 0) (.slice none 0 0) (.slice none 0 0) ⟨8, [], [], 0, [], []⟩ :=
    ⟨h.st.grown hg (fun j hj => by cases hj; have h2 := h.Rw; have h3 := h.Nw; have h4 := h.NBw; exact ⟨by omega, by omega, by omega⟩), h.fr.grown hg (fun j hj => by cases hj; exact Or.inr hgl), (hg.block _ (Array.getElem?_eq_some_iff.1 h.res).1 (fun e => e2 (Option.some.inj e))).trans h.res, hcon, h.Rw, h.Nw, h.NBw, ConR.none _ _ _⟩
  exact ⟨hT.vars ho, hcon⟩
theorem loop_len {α : Type} (en : Int) (T : List Tok) (item : RP → α × RP) : ∀ (f : Nat) (acc : List α) (q : Bool × RP), (loopR en T item f acc q).1.length ≤ acc.length + f
  | 0, acc, q => by unfold loopR; exact Nat.le_refl _
  | f + 1, acc, q => by
    unfold loopR
    split
    · have := loop_len en T item f (acc ++ [(item q.2).1]) (more2R en T (item q.2).2)
      simp at this
      omega
    · show acc.length ≤ _; omega
theorem list_len {α : Type} (en : Int) (T : List Tok) (item : RP → α × RP) (p : RP) : (listR en T item p).1.length ≤ T.length + 2 := by
  have := loop_len en T item (T.length + 2) [] (more1R en T p)
  unfold listR
  simpa using this
def cellLen (w : World) (a : Addr) : Nat := match w.cell? a with | some v => lenOf v | none => 0
theorem list_k {α : Type} {en : Int} {T : List Tok} {item : RP → α × RP} (h : Onward item) : Onward (listR en T item) := fun p => by
  have h1 : ∀ (s : ByteArray) p, p.k ≤ (needR en T s p).k := need_k en T
  have h2 : ∀ (p : RP), p.k ≤ (more1R en T p).2.k := fun p => by
    unfold more1R
    split
    · exact Nat.le_trans (h1 _ p) (h1 _ _)
    · exact h1 _ p
  have h3 : ∀ (p : RP), p.k ≤ (more2R en T p).2.k := fun p => by
    unfold more2R
    split
    · exact h1 _ p
    · exact h1 _ p
  have h4 : ∀ (f : Nat) (acc : List α) (q : Bool × RP), q.2.k ≤ (loopR en T item f acc q).2.k := by
    intro f
    induction f with
    | zero => intro acc q; unfold loopR; exact Nat.le_refl _
    | succ f ih =>
      intro acc q
      unfold loopR
      split
      · exact Nat.le_trans (h q.2) (Nat.le_trans (h3 _) (ih _ _))
      · exact Nat.le_refl _
  exact Nat.le_trans (h2 p) (h4 _ _ _)

set_option maxHeartbeats 4000000 in
set_option maxRecDepth 100000 in
theorem rconR_any (c : RC) (p : RP) (w : World) (h : RSt c p w) :
    Calls Tryz.prog 62 #[.pointer (some ⟨c.R, 0, none⟩)] w fun e w' => ∃ vv vc vr vl, e = .returned (conV vv vc vr vl (conR c.en c.T c.nm p).1) ∧ ConR w.heap.size w' vv vc vr vl (conR c.en c.T c.nm p).1 ∧ RSt c (conR c.en c.T c.nm p).2 w' ∧ Fr (XR9 c.R) w w' := by
  have HS : Hid (RSt c p w) := h
  obtain ⟨Q, hQ⟩ : ∃ Q, conR c.en c.T c.nm p = Q := ⟨_, rfl⟩
  rw [hQ]
  have HQ : Hid (Q = bodyR c.en c.T c.nm (1 + (wordR c.en c.T p conWL.tail 0).1) (wordR c.en c.T p conWL.tail 0).2) := hQ.symm
  have hT4 : c.T.length ≤ 4000 := by obtain ⟨v, _, a, c, _, _, ht, _⟩ := h.blk; exact ht.1
  have hlt := h.lt
  have HNW : Hid (c.N ≤ w.heap.size ∧ c.NB ≤ w.heap.size) := ⟨h.Nw, h.nb⟩
  obtain ⟨iR, hiR, hzR0, hzR1, hzR2⟩ := info_parts Tryz.infoRow5
  obtain ⟨iL, hiL, hzL0, hzL1, hzL2⟩ := info_parts Tryz.infoLit5
  obtain ⟨iI, hiI, hzI0, hzI1, hzI2⟩ := info_parts Tryz.infoInt5
  clear h hQ
  have HB0 : Hid (Below w.heap.size w ((w.alloc (.cells #[.int .i64 0, .slice none 0 0, .slice none 0 0, .int .i64 0, .slice none 0 0, .slice none 0 0] 73)).alloc (.cells #[.int .i64 0, .slice none 0 0, .slice none 0 0, .int .i64 0, .slice none 0 0, .slice none 0 0] 73))) := (below_alloc _ _).alloc (by simp) _
  have HK0 : Hid (((w.alloc (.cells #[.int .i64 0, .slice none 0 0, .slice none 0 0, .int .i64 0, .slice none 0 0, .slice none 0 0] 73)).alloc (.cells #[.int .i64 0, .slice none 0 0, .slice none 0 0, .int .i64 0, .slice none 0 0, .slice none 0 0] 73)).heap[w.heap.size]? = some (.cells #[.int .i64 0, .slice none 0 0, .slice none 0 0, .int .i64 0, .slice none 0 0, .slice none 0 0] 73)) := ((below_alloc (w.alloc (.cells #[.int .i64 0, .slice none 0 0, .slice none 0 0, .int .i64 0, .slice none 0 0, .slice none 0 0] 73)) (.cells #[.int .i64 0, .slice none 0 0, .slice none 0 0, .int .i64 0, .slice none 0 0, .slice none 0 0] 73)).block w.heap.size (by simp)).trans (heap_alloc_new w _)
  have HK1 : Hid (((w.alloc (.cells #[.int .i64 0, .slice none 0 0, .slice none 0 0, .int .i64 0, .slice none 0 0, .slice none 0 0] 73)).alloc (.cells #[.int .i64 0, .slice none 0 0, .slice none 0 0, .int .i64 0, .slice none 0 0, .slice none 0 0] 73)).heap[w.heap.size + 1]? = some (.cells #[.int .i64 0, .slice none 0 0, .slice none 0 0, .int .i64 0, .slice none 0 0, .slice none 0 0] 73)) := by
    have h := heap_alloc_new (w.alloc (.cells #[.int .i64 0, .slice none 0 0, .slice none 0 0, .int .i64 0, .slice none 0 0, .slice none 0 0] 73)) (.cells #[.int .i64 0, .slice none 0 0, .slice none 0 0, .int .i64 0, .slice none 0 0, .slice none 0 0] 73)
    rw [World.size_alloc] at h
    exact h
  have HZS : Hid (((w.alloc (.cells #[.int .i64 0, .slice none 0 0, .slice none 0 0, .int .i64 0, .slice none 0 0, .slice none 0 0] 73)).alloc (.cells #[.int .i64 0, .slice none 0 0, .slice none 0 0, .int .i64 0, .slice none 0 0, .slice none 0 0] 73)).heap.size = w.heap.size + 1 + 1) := by show _ = _; simp
  obtain ⟨Y, hY⟩ : ∃ Y, (w.alloc (.cells #[.int .i64 0, .slice none 0 0, .slice none 0 0, .int .i64 0, .slice none 0 0, .slice none 0 0] 73)).alloc (.cells #[.int .i64 0, .slice none 0 0, .slice none 0 0, .int .i64 0, .slice none 0 0, .slice none 0 0] 73) = Y := ⟨_, rfl⟩
  rw [hY] at HB0 HK0 HK1 HZS
  have HY : Hid ((w.alloc (.cells #[.int .i64 0, .slice none 0 0, .slice none 0 0, .int .i64 0, .slice none 0 0, .slice none 0 0] 73)).alloc (.cells #[.int .i64 0, .slice none 0 0, .slice none 0 0, .int .i64 0, .slice none 0 0, .slice none 0 0] 73) = Y) := hY
  clear hY
  have HSA : Hid (SArg (Y.alloc (.cells (conWL.tail.map Value.string).toArray 9)) (.slice (some ⟨w.heap.size + 1 + 1, 0, none⟩) 10 10) conWL.tail) := strs9 Y conWL.tail _ HZS.out.symm (by decide)
  go_enter Tryz.func62, Tryz.ntmps62
  go_wp2_with fail
  rw [HY.out]
  refine (rword_any c p conWL.tail solid_cons _ _ ?_ HSA.out).mono ?_
  · exact (HS.out.below HB0.out).below (below_alloc _ _)
  rintro e w1 ⟨rfl, h1, hf1⟩
  have HWB : Hid (0 ≤ (wordR c.en c.T p conWL.tail 0).1 ∧ (wordR c.en c.T p conWL.tail 0).1 ≤ ((0 + conWL.tail.length : Nat) : Int)) := word_bound c.en c.T p conWL.tail 0
  obtain ⟨q, hq⟩ : ∃ q, wordR c.en c.T p conWL.tail 0 = q := ⟨_, rfl⟩
  rw [hq] at HQ h1 HWB ⊢
  obtain ⟨o, p1⟩ := q
  clear hq
  dsimp only at HQ h1 HWB ⊢
  have ho : 0 ≤ o ∧ o ≤ 10 := by have h := HWB.out; have e : conWL.tail.length = 10 := rfl; rw [e] at h; omega
  have hfw : Fr (XR9 c.R) Y w1 := (Fr.below (below_alloc _ _)).trans hf1
  have HS1 : Hid (ConT c w w1 p1 (.slice none 0 0) (.slice none 0 0) (.slice none 0 0) (.slice none 0 0) ⟨0, [], [], 0, [], []⟩) := by
    have hl : w.heap.size + 1 < Y.heap.size := (Array.getElem?_eq_some_iff.1 HK1.out).1
    exact ⟨h1, (Fr.below HB0.out).trans hfw, (hfw.block _ (by omega) (by show ¬ _ = _; omega)).trans HK0.out, (hfw.block _ hl (by show ¬ _ = _; omega)).trans HK1.out, hlt, HNW.out.1, HNW.out.2, ConR.none _ _ _⟩
  have c0 : w1.cell? ⟨w.heap.size + 1, 0, none⟩ = some (.int .i64 0) := blk9 HS1.out.con 0 _ rfl
  have z0 := frz9 HS1.out.con 0
  obtain ⟨k, hk⟩ : ∃ k : Int, 1 + o = k := ⟨_, rfl⟩
  have hwk : IntKind.i64.wrap (1 + o) = k := by rw [IntKind.wrap_i64]; omega
  have HS2 : Hid (ConT c w (w1.setCell ⟨w.heap.size + 1, 0, none⟩ (.int .i64 k)) p1 (.slice none 0 0) (.slice none 0 0) (.slice none 0 0) (.slice none 0 0) ⟨k, [], [], 0, [], []⟩) := HS1.out.kind k
  rw [hk] at HQ
  have hk1 : 1 ≤ k ∧ k ≤ 11 := by omega
  clear h1 hf1 hfw HS1 HB0 HK0 HK1 HZS HSA HY HS
  go_upto_block 0 with (fail)
  obtain ⟨y0, hy0⟩ : ∃ y0, w1.setCell ⟨w.heap.size + 1, 0, none⟩ (.int .i64 k) = y0 := ⟨_, rfl⟩
  rw [hy0] at HS2 ⊢
  clear c0 z0 hwk hk hy0 HWB ho
  go_cut [] (fun wx => Hid (∃ vv vc vr vl, ConT c w wx Q.2 vv vc vr vl Q.1))
  case first =>
    have hcases : k = 1 ∨ k = 2 ∨ k = 3 ∨ k = 4 ∨ k = 5 ∨ k = 6 ∨ k = 7 ∨ k = 8 ∨ k = 9 ∨ k = 10 ∨ k = 11 := by omega
    clear hk1
    rcases hcases with hkk | hkk | hkk | hkk | hkk | hkk | hkk | hkk | hkk | hkk | hkk
    · subst hkk
      have HE : Hid (Q = (⟨1, (listR c.en c.T (vR c.en c.T c.nm) (listR c.en c.T (kR c.en c.T) p1).2).1, (listR c.en c.T (kR c.en c.T) p1).1, (kR c.en c.T (listR c.en c.T (vR c.en c.T c.nm) (listR c.en c.T (kR c.en c.T) p1).2).2).1, [], []⟩, (kR c.en c.T (listR c.en c.T (vR c.en c.T c.nm) (listR c.en c.T (kR c.en c.T) p1).2).2).2)) := by show _ = _; rw [HQ.out]; unfold bodyR; rw [if_pos (by decide)]
      clear HQ
      go_wp2_with fail
      refine (rks_any c p1 _ HS2.out.st).mono ?_
      rintro e w2 ⟨v2, rfl, hown, hst, hfr⟩
      obtain ⟨q, hq⟩ : ∃ q, listR c.en c.T (kR c.en c.T) p1 = q := ⟨_, rfl⟩
      rw [hq] at hown hst HE
      obtain ⟨cs, p2⟩ := q
      clear hq
      dsimp only at hown hst HE
      have HO : Hid (w2.ownsRow w.heap.size 3 1 v2 cs.length (cs.map (Value.int .i64))) := own_mono9 hown HS2.out.base
      obtain ⟨a2, c2, hv⟩ := own_form hown
      subst hv
      clear hown
      have HS3 : Hid (ConT c w w2 p2 (.slice none 0 0) (.slice none 0 0) (.slice none 0 0) (.slice none 0 0) ⟨1, [], [], 0, [], []⟩) := HS2.out.call hfr hst
      clear hst hfr HS2
      have k0 : w2.cell? ⟨w.heap.size + 1, 2, none⟩ = some (.slice none 0 0) := blk9 HS3.out.con 2 _ rfl
      have z0 := frz9 HS3.out.con 2
      have HS4 : Hid (ConT c w (w2.setCell ⟨w.heap.size + 1, 2, none⟩ (.slice a2 cs.length c2)) p2 (.slice none 0 0) (.slice a2 cs.length c2) (.slice none 0 0) (.slice none 0 0) ⟨1, [], cs, 0, [], []⟩) := HS3.out.consts HO.out
      clear HS3
      go_wp2_with fail
      refine (rvs_any c p2 _ HS4.out.st).mono ?_
      rintro e w3 ⟨v3, rfl, hown, hst, hfr⟩
      obtain ⟨q, hq⟩ : ∃ q, listR c.en c.T (vR c.en c.T c.nm) p2 = q := ⟨_, rfl⟩
      rw [hq] at hown hst HE
      obtain ⟨vs, p3⟩ := q
      clear hq
      dsimp only at hown hst HE
      have HO : Hid (w3.ownsRow w.heap.size 3 1 v3 vs.length (vs.map (Value.int .i64))) := own_mono9 hown HS4.out.base
      obtain ⟨a3, c3, hv⟩ := own_form hown
      subst hv
      clear hown
      have HS5 : Hid (ConT c w w3 p3 (.slice none 0 0) (.slice a2 cs.length c2) (.slice none 0 0) (.slice none 0 0) ⟨1, [], cs, 0, [], []⟩) := HS4.out.call hfr hst
      clear hst hfr HS4
      have k0 : w3.cell? ⟨w.heap.size + 1, 1, none⟩ = some (.slice none 0 0) := blk9 HS5.out.con 1 _ rfl
      have z0 := frz9 HS5.out.con 1
      have HS6 : Hid (ConT c w (w3.setCell ⟨w.heap.size + 1, 1, none⟩ (.slice a3 vs.length c3)) p3 (.slice a3 vs.length c3) (.slice a2 cs.length c2) (.slice none 0 0) (.slice none 0 0) ⟨1, vs, cs, 0, [], []⟩) := HS5.out.vars HO.out
      clear HS5
      go_wp2_with fail
      refine (rk_any c p3 _ HS6.out.st).mono ?_
      rintro e w4 ⟨rfl, hst, hfr⟩
      obtain ⟨q, hq⟩ : ∃ q, kR c.en c.T p3 = q := ⟨_, rfl⟩
      rw [hq] at hst HE ⊢
      obtain ⟨n, p4⟩ := q
      clear hq
      dsimp only at hst HE ⊢
      have HS7 : Hid (ConT c w w4 p4 (.slice a3 vs.length c3) (.slice a2 cs.length c2) (.slice none 0 0) (.slice none 0 0) ⟨1, vs, cs, 0, [], []⟩) := HS6.out.call hfr hst
      clear hst hfr HS6
      have k0 : w4.cell? ⟨w.heap.size + 1, 3, none⟩ = some (.int .i64 0) := blk9 HS7.out.con 3 _ rfl
      have z0 := frz9 HS7.out.con 3
      have HS8 : Hid (ConT c w (w4.setCell ⟨w.heap.size + 1, 3, none⟩ (.int .i64 n)) p4 (.slice a3 vs.length c3) (.slice a2 cs.length c2) (.slice none 0 0) (.slice none 0 0) ⟨1, vs, cs, n, [], []⟩) := HS7.out.n n
      clear HS7
      go_wp2_with fail
      go_meet
      refine ⟨(.slice a3 vs.length c3), (.slice a2 cs.length c2), (.slice none 0 0), (.slice none 0 0), ?_⟩
      rw [HE.out]
      exact HS8.out
    · subst hkk
      have HE : Hid (Q = (⟨2, (listR c.en c.T (vR c.en c.T c.nm) (listR c.en c.T (kR c.en c.T) p1).2).1, (listR c.en c.T (kR c.en c.T) p1).1, (kR c.en c.T (listR c.en c.T (vR c.en c.T c.nm) (listR c.en c.T (kR c.en c.T) p1).2).2).1, [], []⟩, (kR c.en c.T (listR c.en c.T (vR c.en c.T c.nm) (listR c.en c.T (kR c.en c.T) p1).2).2).2)) := by show _ = _; rw [HQ.out]; unfold bodyR; rw [if_pos (by decide)]
      clear HQ
      go_wp2_with fail
      refine (rks_any c p1 _ HS2.out.st).mono ?_
      rintro e w2 ⟨v2, rfl, hown, hst, hfr⟩
      obtain ⟨q, hq⟩ : ∃ q, listR c.en c.T (kR c.en c.T) p1 = q := ⟨_, rfl⟩
      rw [hq] at hown hst HE
      obtain ⟨cs, p2⟩ := q
      clear hq
      dsimp only at hown hst HE
      have HO : Hid (w2.ownsRow w.heap.size 3 1 v2 cs.length (cs.map (Value.int .i64))) := own_mono9 hown HS2.out.base
      obtain ⟨a2, c2, hv⟩ := own_form hown
      subst hv
      clear hown
      have HS3 : Hid (ConT c w w2 p2 (.slice none 0 0) (.slice none 0 0) (.slice none 0 0) (.slice none 0 0) ⟨2, [], [], 0, [], []⟩) := HS2.out.call hfr hst
      clear hst hfr HS2
      have k0 : w2.cell? ⟨w.heap.size + 1, 2, none⟩ = some (.slice none 0 0) := blk9 HS3.out.con 2 _ rfl
      have z0 := frz9 HS3.out.con 2
      have HS4 : Hid (ConT c w (w2.setCell ⟨w.heap.size + 1, 2, none⟩ (.slice a2 cs.length c2)) p2 (.slice none 0 0) (.slice a2 cs.length c2) (.slice none 0 0) (.slice none 0 0) ⟨2, [], cs, 0, [], []⟩) := HS3.out.consts HO.out
      clear HS3
      go_wp2_with fail
      refine (rvs_any c p2 _ HS4.out.st).mono ?_
      rintro e w3 ⟨v3, rfl, hown, hst, hfr⟩
      obtain ⟨q, hq⟩ : ∃ q, listR c.en c.T (vR c.en c.T c.nm) p2 = q := ⟨_, rfl⟩
      rw [hq] at hown hst HE
      obtain ⟨vs, p3⟩ := q
      clear hq
      dsimp only at hown hst HE
      have HO : Hid (w3.ownsRow w.heap.size 3 1 v3 vs.length (vs.map (Value.int .i64))) := own_mono9 hown HS4.out.base
      obtain ⟨a3, c3, hv⟩ := own_form hown
      subst hv
      clear hown
      have HS5 : Hid (ConT c w w3 p3 (.slice none 0 0) (.slice a2 cs.length c2) (.slice none 0 0) (.slice none 0 0) ⟨2, [], cs, 0, [], []⟩) := HS4.out.call hfr hst
      clear hst hfr HS4
      have k0 : w3.cell? ⟨w.heap.size + 1, 1, none⟩ = some (.slice none 0 0) := blk9 HS5.out.con 1 _ rfl
      have z0 := frz9 HS5.out.con 1
      have HS6 : Hid (ConT c w (w3.setCell ⟨w.heap.size + 1, 1, none⟩ (.slice a3 vs.length c3)) p3 (.slice a3 vs.length c3) (.slice a2 cs.length c2) (.slice none 0 0) (.slice none 0 0) ⟨2, vs, cs, 0, [], []⟩) := HS5.out.vars HO.out
      clear HS5
      go_wp2_with fail
      refine (rk_any c p3 _ HS6.out.st).mono ?_
      rintro e w4 ⟨rfl, hst, hfr⟩
      obtain ⟨q, hq⟩ : ∃ q, kR c.en c.T p3 = q := ⟨_, rfl⟩
      rw [hq] at hst HE ⊢
      obtain ⟨n, p4⟩ := q
      clear hq
      dsimp only at hst HE ⊢
      have HS7 : Hid (ConT c w w4 p4 (.slice a3 vs.length c3) (.slice a2 cs.length c2) (.slice none 0 0) (.slice none 0 0) ⟨2, vs, cs, 0, [], []⟩) := HS6.out.call hfr hst
      clear hst hfr HS6
      have k0 : w4.cell? ⟨w.heap.size + 1, 3, none⟩ = some (.int .i64 0) := blk9 HS7.out.con 3 _ rfl
      have z0 := frz9 HS7.out.con 3
      have HS8 : Hid (ConT c w (w4.setCell ⟨w.heap.size + 1, 3, none⟩ (.int .i64 n)) p4 (.slice a3 vs.length c3) (.slice a2 cs.length c2) (.slice none 0 0) (.slice none 0 0) ⟨2, vs, cs, n, [], []⟩) := HS7.out.n n
      clear HS7
      go_wp2_with fail
      go_meet
      refine ⟨(.slice a3 vs.length c3), (.slice a2 cs.length c2), (.slice none 0 0), (.slice none 0 0), ?_⟩
      rw [HE.out]
      exact HS8.out
    · subst hkk
      have HE : Hid (Q = (⟨3, (listR c.en c.T (vR c.en c.T c.nm) (listR c.en c.T (kR c.en c.T) p1).2).1, (listR c.en c.T (kR c.en c.T) p1).1, (kR c.en c.T (listR c.en c.T (vR c.en c.T c.nm) (listR c.en c.T (kR c.en c.T) p1).2).2).1, [], []⟩, (kR c.en c.T (listR c.en c.T (vR c.en c.T c.nm) (listR c.en c.T (kR c.en c.T) p1).2).2).2)) := by show _ = _; rw [HQ.out]; unfold bodyR; rw [if_pos (by decide)]
      clear HQ
      go_wp2_with fail
      refine (rks_any c p1 _ HS2.out.st).mono ?_
      rintro e w2 ⟨v2, rfl, hown, hst, hfr⟩
      obtain ⟨q, hq⟩ : ∃ q, listR c.en c.T (kR c.en c.T) p1 = q := ⟨_, rfl⟩
      rw [hq] at hown hst HE
      obtain ⟨cs, p2⟩ := q
      clear hq
      dsimp only at hown hst HE
      have HO : Hid (w2.ownsRow w.heap.size 3 1 v2 cs.length (cs.map (Value.int .i64))) := own_mono9 hown HS2.out.base
      obtain ⟨a2, c2, hv⟩ := own_form hown
      subst hv
      clear hown
      have HS3 : Hid (ConT c w w2 p2 (.slice none 0 0) (.slice none 0 0) (.slice none 0 0) (.slice none 0 0) ⟨3, [], [], 0, [], []⟩) := HS2.out.call hfr hst
      clear hst hfr HS2
      have k0 : w2.cell? ⟨w.heap.size + 1, 2, none⟩ = some (.slice none 0 0) := blk9 HS3.out.con 2 _ rfl
      have z0 := frz9 HS3.out.con 2
      have HS4 : Hid (ConT c w (w2.setCell ⟨w.heap.size + 1, 2, none⟩ (.slice a2 cs.length c2)) p2 (.slice none 0 0) (.slice a2 cs.length c2) (.slice none 0 0) (.slice none 0 0) ⟨3, [], cs, 0, [], []⟩) := HS3.out.consts HO.out
      clear HS3
      go_wp2_with fail
      refine (rvs_any c p2 _ HS4.out.st).mono ?_
      rintro e w3 ⟨v3, rfl, hown, hst, hfr⟩
      obtain ⟨q, hq⟩ : ∃ q, listR c.en c.T (vR c.en c.T c.nm) p2 = q := ⟨_, rfl⟩
      rw [hq] at hown hst HE
      obtain ⟨vs, p3⟩ := q
      clear hq
      dsimp only at hown hst HE
      have HO : Hid (w3.ownsRow w.heap.size 3 1 v3 vs.length (vs.map (Value.int .i64))) := own_mono9 hown HS4.out.base
      obtain ⟨a3, c3, hv⟩ := own_form hown
      subst hv
      clear hown
      have HS5 : Hid (ConT c w w3 p3 (.slice none 0 0) (.slice a2 cs.length c2) (.slice none 0 0) (.slice none 0 0) ⟨3, [], cs, 0, [], []⟩) := HS4.out.call hfr hst
      clear hst hfr HS4
      have k0 : w3.cell? ⟨w.heap.size + 1, 1, none⟩ = some (.slice none 0 0) := blk9 HS5.out.con 1 _ rfl
      have z0 := frz9 HS5.out.con 1
      have HS6 : Hid (ConT c w (w3.setCell ⟨w.heap.size + 1, 1, none⟩ (.slice a3 vs.length c3)) p3 (.slice a3 vs.length c3) (.slice a2 cs.length c2) (.slice none 0 0) (.slice none 0 0) ⟨3, vs, cs, 0, [], []⟩) := HS5.out.vars HO.out
      clear HS5
      go_wp2_with fail
      refine (rk_any c p3 _ HS6.out.st).mono ?_
      rintro e w4 ⟨rfl, hst, hfr⟩
      obtain ⟨q, hq⟩ : ∃ q, kR c.en c.T p3 = q := ⟨_, rfl⟩
      rw [hq] at hst HE ⊢
      obtain ⟨n, p4⟩ := q
      clear hq
      dsimp only at hst HE ⊢
      have HS7 : Hid (ConT c w w4 p4 (.slice a3 vs.length c3) (.slice a2 cs.length c2) (.slice none 0 0) (.slice none 0 0) ⟨3, vs, cs, 0, [], []⟩) := HS6.out.call hfr hst
      clear hst hfr HS6
      have k0 : w4.cell? ⟨w.heap.size + 1, 3, none⟩ = some (.int .i64 0) := blk9 HS7.out.con 3 _ rfl
      have z0 := frz9 HS7.out.con 3
      have HS8 : Hid (ConT c w (w4.setCell ⟨w.heap.size + 1, 3, none⟩ (.int .i64 n)) p4 (.slice a3 vs.length c3) (.slice a2 cs.length c2) (.slice none 0 0) (.slice none 0 0) ⟨3, vs, cs, n, [], []⟩) := HS7.out.n n
      clear HS7
      go_wp2_with fail
      go_meet
      refine ⟨(.slice a3 vs.length c3), (.slice a2 cs.length c2), (.slice none 0 0), (.slice none 0 0), ?_⟩
      rw [HE.out]
      exact HS8.out
    · subst hkk
      have HE : Hid (Q = (⟨4, (listR c.en c.T (vR c.en c.T c.nm) p1).1, [], 0, [], []⟩, (listR c.en c.T (vR c.en c.T c.nm) p1).2)) := by show _ = _; rw [HQ.out]; unfold bodyR; simp only [show ¬ ((4 : Int) = 1 ∨ (4 : Int) = 2 ∨ (4 : Int) = 3) by decide, if_false, if_true]
      clear HQ
      go_wp2_with fail
      refine (rvs_any c p1 _ HS2.out.st).mono ?_
      rintro e w2 ⟨v2, rfl, hown, hst, hfr⟩
      obtain ⟨q, hq⟩ : ∃ q, listR c.en c.T (vR c.en c.T c.nm) p1 = q := ⟨_, rfl⟩
      rw [hq] at hown hst HE
      obtain ⟨vs, p2⟩ := q
      clear hq
      dsimp only at hown hst HE
      have HO : Hid (w2.ownsRow w.heap.size 3 1 v2 vs.length (vs.map (Value.int .i64))) := own_mono9 hown HS2.out.base
      obtain ⟨a2, c2, hv⟩ := own_form hown
      subst hv
      clear hown
      have HS3 : Hid (ConT c w w2 p2 (.slice none 0 0) (.slice none 0 0) (.slice none 0 0) (.slice none 0 0) ⟨4, [], [], 0, [], []⟩) := HS2.out.call hfr hst
      clear hst hfr HS2
      have k0 : w2.cell? ⟨w.heap.size + 1, 1, none⟩ = some (.slice none 0 0) := blk9 HS3.out.con 1 _ rfl
      have z0 := frz9 HS3.out.con 1
      have HS4 : Hid (ConT c w (w2.setCell ⟨w.heap.size + 1, 1, none⟩ (.slice a2 vs.length c2)) p2 (.slice a2 vs.length c2) (.slice none 0 0) (.slice none 0 0) (.slice none 0 0) ⟨4, vs, [], 0, [], []⟩) := HS3.out.vars HO.out
      clear HS3
      go_wp2_with fail
      go_meet
      refine ⟨(.slice a2 vs.length c2), (.slice none 0 0), (.slice none 0 0), (.slice none 0 0), ?_⟩
      rw [HE.out]
      exact HS4.out
    · subst hkk
      have HE : Hid (Q = (⟨5, [(vR c.en c.T c.nm (listR c.en c.T (kR c.en c.T) p1).2).1, (vR c.en c.T c.nm (vR c.en c.T c.nm (listR c.en c.T (kR c.en c.T) p1).2).2).1], (listR c.en c.T (kR c.en c.T) p1).1, 0, [], []⟩, (vR c.en c.T c.nm (vR c.en c.T c.nm (listR c.en c.T (kR c.en c.T) p1).2).2).2)) := by show _ = _; rw [HQ.out]; unfold bodyR; simp only [show ¬ ((5 : Int) = 1 ∨ (5 : Int) = 2 ∨ (5 : Int) = 3) by decide, if_false, show ¬ ((5 : Int) = 4) by decide, if_true]
      clear HQ
      go_wp2_with fail
      refine (rks_any c p1 _ HS2.out.st).mono ?_
      rintro e w2 ⟨v2, rfl, hown, hst, hfr⟩
      obtain ⟨q, hq⟩ : ∃ q, listR c.en c.T (kR c.en c.T) p1 = q := ⟨_, rfl⟩
      rw [hq] at hown hst HE
      obtain ⟨cs, p2⟩ := q
      clear hq
      dsimp only at hown hst HE
      have HO : Hid (w2.ownsRow w.heap.size 3 1 v2 cs.length (cs.map (Value.int .i64))) := own_mono9 hown HS2.out.base
      obtain ⟨a2, c2, hv⟩ := own_form hown
      subst hv
      clear hown
      have HS3 : Hid (ConT c w w2 p2 (.slice none 0 0) (.slice none 0 0) (.slice none 0 0) (.slice none 0 0) ⟨5, [], [], 0, [], []⟩) := HS2.out.call hfr hst
      clear hst hfr HS2
      have k0 : w2.cell? ⟨w.heap.size + 1, 2, none⟩ = some (.slice none 0 0) := blk9 HS3.out.con 2 _ rfl
      have z0 := frz9 HS3.out.con 2
      have HS4 : Hid (ConT c w (w2.setCell ⟨w.heap.size + 1, 2, none⟩ (.slice a2 cs.length c2)) p2 (.slice none 0 0) (.slice a2 cs.length c2) (.slice none 0 0) (.slice none 0 0) ⟨5, [], cs, 0, [], []⟩) := HS3.out.consts HO.out
      clear HS3
      go_wp2_with fail
      refine (rv_any c p2 _ HS4.out.st).mono ?_
      rintro e w3 ⟨rfl, hst, hfr⟩
      obtain ⟨q, hq⟩ : ∃ q, vR c.en c.T c.nm p2 = q := ⟨_, rfl⟩
      rw [hq] at hst HE ⊢
      obtain ⟨a, p3⟩ := q
      clear hq
      dsimp only at hst HE ⊢
      have HS5 : Hid (ConT c w w3 p3 (.slice none 0 0) (.slice a2 cs.length c2) (.slice none 0 0) (.slice none 0 0) ⟨5, [], cs, 0, [], []⟩) := HS4.out.call hfr hst
      clear hst hfr HS4
      go_wp2_with fail
      refine (rv_any c p3 _ HS5.out.st).mono ?_
      rintro e w4 ⟨rfl, hst, hfr⟩
      obtain ⟨q, hq⟩ : ∃ q, vR c.en c.T c.nm p3 = q := ⟨_, rfl⟩
      rw [hq] at hst HE ⊢
      obtain ⟨b, p4⟩ := q
      clear hq
      dsimp only at hst HE ⊢
      have HS6 : Hid (ConT c w w4 p4 (.slice none 0 0) (.slice a2 cs.length c2) (.slice none 0 0) (.slice none 0 0) ⟨5, [], cs, 0, [], []⟩) := HS5.out.call hfr hst
      clear hst hfr HS5
      have k0 : w4.cell? ⟨w.heap.size + 1, 1, none⟩ = some (.slice none 0 0) := blk9 HS6.out.con 1 _ rfl
      have z0 := frz9 HS6.out.con 1
      have l0 : w.heap.size + 1 < w4.heap.size := (Array.getElem?_eq_some_iff.1 HS6.out.con).1
      have HS7 : Hid (ConT c w ((w4.setCell ⟨w.heap.size + 1, 1, none⟩ (.slice (some ⟨w4.heap.size, 0, none⟩) 2 2)).alloc (.cells #[.int .i64 a, .int .i64 b] 3)) p4 (.slice (some ⟨w4.heap.size, 0, none⟩) 2 2) (.slice a2 cs.length c2) (.slice none 0 0) (.slice none 0 0) ⟨5, [a, b], cs, 0, [], []⟩) := HS6.out.varsLit [a, b] (by simp)
      clear HS6
      go_wp2_with fail
      go_meet
      refine ⟨(.slice (some ⟨w4.heap.size, 0, none⟩) 2 2), (.slice a2 cs.length c2), (.slice none 0 0), (.slice none 0 0), ?_⟩
      rw [HE.out]
      exact HS7.out
    · subst hkk
      have HE : Hid (Q = (⟨6, (listR c.en c.T (vR c.en c.T c.nm) p1).1, [], 0, (listR c.en c.T (listR c.en c.T (kR c.en c.T)) (listR c.en c.T (vR c.en c.T c.nm) p1).2).1, []⟩, (listR c.en c.T (listR c.en c.T (kR c.en c.T)) (listR c.en c.T (vR c.en c.T c.nm) p1).2).2)) := by show _ = _; rw [HQ.out]; unfold bodyR; simp only [show ¬ ((6 : Int) = 1 ∨ (6 : Int) = 2 ∨ (6 : Int) = 3) by decide, if_false, show ¬ ((6 : Int) = 4) by decide, show ¬ ((6 : Int) = 5) by decide, if_true]
      clear HQ
      go_wp2_with fail
      refine (rvs_any c p1 _ HS2.out.st).mono ?_
      rintro e w2 ⟨v2, rfl, hown, hst, hfr⟩
      obtain ⟨q, hq⟩ : ∃ q, listR c.en c.T (vR c.en c.T c.nm) p1 = q := ⟨_, rfl⟩
      rw [hq] at hown hst HE
      obtain ⟨vs, p2⟩ := q
      clear hq
      dsimp only at hown hst HE
      have HO : Hid (w2.ownsRow w.heap.size 3 1 v2 vs.length (vs.map (Value.int .i64))) := own_mono9 hown HS2.out.base
      obtain ⟨a2, c2, hv⟩ := own_form hown
      subst hv
      clear hown
      have HS3 : Hid (ConT c w w2 p2 (.slice none 0 0) (.slice none 0 0) (.slice none 0 0) (.slice none 0 0) ⟨6, [], [], 0, [], []⟩) := HS2.out.call hfr hst
      clear hst hfr HS2
      have k0 : w2.cell? ⟨w.heap.size + 1, 1, none⟩ = some (.slice none 0 0) := blk9 HS3.out.con 1 _ rfl
      have z0 := frz9 HS3.out.con 1
      have HS4 : Hid (ConT c w (w2.setCell ⟨w.heap.size + 1, 1, none⟩ (.slice a2 vs.length c2)) p2 (.slice a2 vs.length c2) (.slice none 0 0) (.slice none 0 0) (.slice none 0 0) ⟨6, vs, [], 0, [], []⟩) := HS3.out.vars HO.out
      clear HS3
      obtain ⟨L, hL⟩ : ∃ L, listR c.en c.T (listR c.en c.T (kR c.en c.T)) p2 = L := ⟨_, rfl⟩
      rw [hL] at HE
      have HQ2 : Hid (loopR c.en c.T (listR c.en c.T (kR c.en c.T)) (c.T.length + 2) [] (more1R c.en c.T p2) = L) := hL
      clear hL
      go_wp2_with fail
      refine (rmore1_any c p2 _ HS4.out.st).mono ?_
      rintro e wm ⟨rfl, hst, hfr⟩
      obtain ⟨q, hq⟩ : ∃ q, more1R c.en c.T p2 = q := ⟨_, rfl⟩
      rw [hq] at HQ2 hst ⊢
      obtain ⟨bm, pm⟩ := q
      have HSM : Hid (ConT c w wm pm (.slice a2 vs.length c2) (.slice none 0 0) (.slice none 0 0) (.slice none 0 0) ⟨6, vs, [], 0, [], []⟩) := HS4.out.call hfr hst
      clear hst hfr hq HS4 k0 z0
      dsimp only
      go_wp2_with fail
      go_loopw [6] (fun mo wr => ∃ (f : Nat) (acc : List (List Int)) (b : Bool) (p : RP) (vx : Value), Hid (loopR c.en c.T (listR c.en c.T (kR c.en c.T)) f acc (b, p) = L) ∧ mo = .bool b ∧ Hid (ConT c w wr p (.slice a2 vs.length c2) (.slice none 0 0) vx (.slice none 0 0) ⟨6, vs, [], 0, acc, []⟩) ∧ acc.length + f = c.T.length + 2 ∧ (b = true → c.T.length + 2 ≤ f + p.k)) (fun _ wr => c.T.length + 3 - cellLen wr ⟨w.heap.size + 1, 4, none⟩)
      case atStart => exact ⟨c.T.length + 2, [], bm, pm, _, HQ2, rfl, HSM, by simp, fun _ => by omega⟩
      case round =>
        clear HQ2 HSM
        obtain ⟨f, acc, b, p2, vx, HQ2, rfl, HS2, haf, hbf⟩ := hrel
        have HKT := HS2.out.st.kT
        obtain ⟨al, cl, rfl⟩ := HS2.out.own.2.2.1.form
        cases b
        · have HL : Hid (L = (acc, p2)) := HQ2.out.symm.trans (loop_end _ _ _ _ _ _)
          clear hbf HQ2
          go_wp2_with fail
          go_meet
          refine ⟨(.slice a2 vs.length c2), (.slice none 0 0), (.slice al acc.length cl), (.slice none 0 0), ?_⟩
          rw [HE.out, HL.out]
          exact HS2.out
        · have hbf2 := hbf rfl
          obtain ⟨g, rfl⟩ : ∃ g, f = g + 1 := ⟨f - 1, by omega⟩
          have HQ3 : Hid (loopR c.en c.T (listR c.en c.T (kR c.en c.T)) g (acc ++ [((listR c.en c.T (kR c.en c.T)) p2).1]) (more2R c.en c.T ((listR c.en c.T (kR c.en c.T)) p2).2) = L) := (loop_go _ _ _ _ _ _).symm.trans HQ2.out
          have HLN : Hid (acc.length ≤ 5000) := by show _ ≤ _; omega
          have HM0 : Hid (cellLen wr ⟨w.heap.size + 1, 4, none⟩ = acc.length) := by show _ = _; unfold cellLen; rw [blk9 HS2.out.con 4 _ rfl]; rfl
          clear hbf HQ2
          go_wp2_with fail
          have c1 : wr.cell? ⟨w.heap.size + 1, 4, none⟩ = some (.slice al acc.length cl) := blk9 HS2.out.con 4 _ rfl
          have HSD : Hid (ConT c w wr.drew p2 (.slice a2 vs.length c2) (.slice none 0 0) (.slice al acc.length cl) (.slice none 0 0) ⟨6, vs, [], 0, acc, []⟩) := HS2.out.below (Below.refl _ _).drew
          have hnv := rks_any c p2 wr.drew HSD.out.st
          have HKK : Hid (p2.k ≤ ((listR c.en c.T (kR c.en c.T)) p2).2.k) := list_k (k_k c.en c.T) p2
          obtain ⟨q, hq⟩ : ∃ q, (listR c.en c.T (kR c.en c.T)) p2 = q := ⟨_, rfl⟩
          rw [hq] at hnv HQ3 HKK
          obtain ⟨x, p3⟩ := q
          clear hq
          dsimp only at hnv HQ3 HKK
          go_region_law
            (first
              | (rw [if_pos (by rfl)]; refine wp_append_own _ _ _ 60 rfl w.heap.size 26 iR _ 1 24 Tryz.underRows5 hiR hzR0 hzR1 hzR2 rfl (by decide) _ _ _ rfl (hw8.alloc _) ⟨w8.heap.size, 0, none⟩ 1 1 [.slice a8 x.length b8] rfl rfl (one_laidR w8 _) (by intro u hu; rcases List.mem_singleton.1 hu with rfl; rfl) ?_ ?_ ?_ ?_; (have := HLN.out; unfold maxLen; dsimp only; omega); (have := HLN.out; dsimp only; omega); (have := HT.base; simp; omega); intro v9 w9 hown9 hg9 _; have HU := HT.pushRow hw8 hc8 hx8 hg9 rfl hown9; have d0 := blk9 HU.2 4 _ rfl; have z0 := frz9 HU.2 4; obtain ⟨a9, b9, hv9⟩ := own_form hown9; subst hv9)
              | (rw [if_pos (by rfl)]; go_simp; go_at_call 115; refine hnv.mono ?_; rintro e w8 ⟨v8, rfl, ho8, hst8, hfr8⟩; have HT := HSD.out.call hfr8 hst8; have hx8 := own_mono9 ho8 HSD.out.base; obtain ⟨a8, b8, hv8⟩ := own_form hx8; subst hv8; obtain ⟨cells8, hw8, hc8⟩ := HT.own.2.2.1; have c8 := blk9 HT.con 4 _ rfl; have hl8 : w.heap.size + 1 < w8.heap.size := (Array.getElem?_eq_some_iff.1 HT.con).1; dsimp only))
          all_goals
            have HSN : Hid (ConT c w (w9.setCell ⟨w.heap.size + 1, 4, none⟩ (.slice a9 (acc.length + 1) b9)) p3 (.slice a2 vs.length c2) (.slice none 0 0) (.slice a9 (acc.length + 1) b9) (.slice none 0 0) ⟨6, vs, [], 0, (acc ++ [x]), []⟩) := HU.1
            clear HT HU HSD hnv hg9 hown9 c1 c8 HS2 hx8 hw8 hc8 ho8 hst8 hfr8
            go_wp2_with fail
            clear d0 z0
            refine (rmore2_any c p3 _ HSN.out.st).mono ?_
            rintro e w4 ⟨rfl, h4, hf4⟩
            have HM2 : Hid ((more2R c.en c.T p3).1 = true → (more2R c.en c.T p3).2.k = p3.k + 1) := more2_k c.en c.T p3
            obtain ⟨q, hq⟩ : ∃ q, more2R c.en c.T p3 = q := ⟨_, rfl⟩
            rw [hq] at HQ3 h4 HM2 ⊢
            obtain ⟨b4, p4⟩ := q
            have HS4 : Hid (ConT c w w4 p4 (.slice a2 vs.length c2) (.slice none 0 0) (.slice a9 (acc.length + 1) b9) (.slice none 0 0) ⟨6, vs, [], 0, (acc ++ [x]), []⟩) := HSN.out.call hf4 h4
            clear h4 hf4 hq HSN
            dsimp only at *
            have HB4 : Hid (b4 = true → c.T.length + 2 ≤ g + p4.k) := fun hb => by have h1 := HM2.out hb; have h2 := HKK.out; omega
            have HM4 : Hid (cellLen w4 ⟨w.heap.size + 1, 4, none⟩ = acc.length + 1) := by show _ = _; unfold cellLen; rw [blk9 HS4.out.con 4 _ rfl]; rfl
            go_wp2
            go_roundw
            case rel => exact ⟨g, acc ++ [x], b4, p4, _, HQ3, rfl, HS4, by simp; omega, HB4.out⟩
            case measure => have h1 := HM0.out; have h2 := HM4.out; simp only [h1, h2]; omega
    · subst hkk
      have HE : Hid (Q = (⟨7, [(vR c.en c.T c.nm p1).1, (vR c.en c.T c.nm (vR c.en c.T c.nm p1).2).1, (vR c.en c.T c.nm (vR c.en c.T c.nm (vR c.en c.T c.nm p1).2).2).1], [], 0, [], []⟩, (vR c.en c.T c.nm (vR c.en c.T c.nm (vR c.en c.T c.nm p1).2).2).2)) := by show _ = _; rw [HQ.out]; unfold bodyR; simp only [show ¬ ((7 : Int) = 1 ∨ (7 : Int) = 2 ∨ (7 : Int) = 3) by decide, if_false, show ¬ ((7 : Int) = 4) by decide, show ¬ ((7 : Int) = 5) by decide, show ¬ ((7 : Int) = 6) by decide, if_true]
      clear HQ
      go_wp2_with fail
      refine (rv_any c p1 _ HS2.out.st).mono ?_
      rintro e w2 ⟨rfl, hst, hfr⟩
      obtain ⟨q, hq⟩ : ∃ q, vR c.en c.T c.nm p1 = q := ⟨_, rfl⟩
      rw [hq] at hst HE ⊢
      obtain ⟨a, p2⟩ := q
      clear hq
      dsimp only at hst HE ⊢
      have HS3 : Hid (ConT c w w2 p2 (.slice none 0 0) (.slice none 0 0) (.slice none 0 0) (.slice none 0 0) ⟨7, [], [], 0, [], []⟩) := HS2.out.call hfr hst
      clear hst hfr HS2
      go_wp2_with fail
      refine (rv_any c p2 _ HS3.out.st).mono ?_
      rintro e w3 ⟨rfl, hst, hfr⟩
      obtain ⟨q, hq⟩ : ∃ q, vR c.en c.T c.nm p2 = q := ⟨_, rfl⟩
      rw [hq] at hst HE ⊢
      obtain ⟨b, p3⟩ := q
      clear hq
      dsimp only at hst HE ⊢
      have HS4 : Hid (ConT c w w3 p3 (.slice none 0 0) (.slice none 0 0) (.slice none 0 0) (.slice none 0 0) ⟨7, [], [], 0, [], []⟩) := HS3.out.call hfr hst
      clear hst hfr HS3
      go_wp2_with fail
      refine (rv_any c p3 _ HS4.out.st).mono ?_
      rintro e w4 ⟨rfl, hst, hfr⟩
      obtain ⟨q, hq⟩ : ∃ q, vR c.en c.T c.nm p3 = q := ⟨_, rfl⟩
      rw [hq] at hst HE ⊢
      obtain ⟨d, p4⟩ := q
      clear hq
      dsimp only at hst HE ⊢
      have HS5 : Hid (ConT c w w4 p4 (.slice none 0 0) (.slice none 0 0) (.slice none 0 0) (.slice none 0 0) ⟨7, [], [], 0, [], []⟩) := HS4.out.call hfr hst
      clear hst hfr HS4
      have k0 : w4.cell? ⟨w.heap.size + 1, 1, none⟩ = some (.slice none 0 0) := blk9 HS5.out.con 1 _ rfl
      have z0 := frz9 HS5.out.con 1
      have l0 : w.heap.size + 1 < w4.heap.size := (Array.getElem?_eq_some_iff.1 HS5.out.con).1
      have HS6 : Hid (ConT c w ((w4.setCell ⟨w.heap.size + 1, 1, none⟩ (.slice (some ⟨w4.heap.size, 0, none⟩) 3 3)).alloc (.cells #[.int .i64 a, .int .i64 b, .int .i64 d] 3)) p4 (.slice (some ⟨w4.heap.size, 0, none⟩) 3 3) (.slice none 0 0) (.slice none 0 0) (.slice none 0 0) ⟨7, [a, b, d], [], 0, [], []⟩) := HS5.out.varsLit [a, b, d] (by simp)
      clear HS5
      go_wp2_with fail
      go_meet
      refine ⟨(.slice (some ⟨w4.heap.size, 0, none⟩) 3 3), (.slice none 0 0), (.slice none 0 0), (.slice none 0 0), ?_⟩
      rw [HE.out]
      exact HS6.out
    · subst hkk
      have HE : Hid (Q = (⟨8, [(vR c.en c.T c.nm p1).1] ++ (listR c.en c.T (vR c.en c.T c.nm) (vR c.en c.T c.nm p1).2).1, [], 0, [], []⟩, (listR c.en c.T (vR c.en c.T c.nm) (vR c.en c.T c.nm p1).2).2)) := by show _ = _; rw [HQ.out]; unfold bodyR; simp only [show ¬ ((8 : Int) = 1 ∨ (8 : Int) = 2 ∨ (8 : Int) = 3) by decide, if_false, show ¬ ((8 : Int) = 4) by decide, show ¬ ((8 : Int) = 5) by decide, show ¬ ((8 : Int) = 6) by decide, show ¬ ((8 : Int) = 7) by decide, if_true]
      clear HQ
      go_wp2_with fail
      refine (rv_any c p1 _ HS2.out.st).mono ?_
      rintro e w2 ⟨rfl, hst, hfr⟩
      obtain ⟨q, hq⟩ : ∃ q, vR c.en c.T c.nm p1 = q := ⟨_, rfl⟩
      rw [hq] at hst HE ⊢
      obtain ⟨a, p2⟩ := q
      clear hq
      dsimp only at hst HE ⊢
      have HS3 : Hid (ConT c w w2 p2 (.slice none 0 0) (.slice none 0 0) (.slice none 0 0) (.slice none 0 0) ⟨8, [], [], 0, [], []⟩) := HS2.out.call hfr hst
      clear hst hfr HS2
      have HRO : Hid ((w2.alloc (.cells #[.int .i64 a] 3)).ownsRow w.heap.size 3 1 (.slice (some ⟨w2.heap.size, 0, none⟩) 1 1) 1 [.int .i64 a]) := World.ownsRow_lit (e := 3) (size := 1) w2 #[.int .i64 a] 1 HS3.out.base (by unfold maxLen; omega) rfl
      have HSA : Hid (ConT c w (w2.alloc (.cells #[.int .i64 a] 3)) p2 (.slice none 0 0) (.slice none 0 0) (.slice none 0 0) (.slice none 0 0) ⟨8, [], [], 0, [], []⟩) := HS3.out.below (below_alloc _ _)
      clear HS3
      go_wp2_with fail
      refine (rvs_any c p2 _ HSA.out.st).mono ?_
      rintro e w9 ⟨v9, rfl, hown, hst, hfr⟩
      have hvl := list_len c.en c.T (vR c.en c.T c.nm) p2
      obtain ⟨q, hq⟩ : ∃ q, listR c.en c.T (vR c.en c.T c.nm) p2 = q := ⟨_, rfl⟩
      rw [hq] at hown hst HE hvl
      obtain ⟨vs, p9⟩ := q
      clear hq
      dsimp only at hown hst HE hvl
      obtain ⟨vn, hvn⟩ : ∃ vn, [a] ++ vs = vn := ⟨_, rfl⟩
      have HVN : Hid ([a] ++ vs = vn) := hvn
      rw [hvn] at HE
      clear hvn
      have HVL : Hid ([a].length + vs.length ≤ 100000) := by show _ ≤ _; simp; omega
      have HS9 : Hid (ConT c w w9 p9 (.slice none 0 0) (.slice none 0 0) (.slice none 0 0) (.slice none 0 0) ⟨8, [], [], 0, [], []⟩) := HSA.out.call hfr hst
      have HR9 : Hid (w9.ownsRow w.heap.size 3 1 (.slice (some ⟨w2.heap.size, 0, none⟩) 1 1) 1 [.int .i64 a]) := own_fr HRO.out hfr (fun j hj => by have h1 : j = c.R := hj; rw [h1]; exact hlt)
      have HOV := hown
      have hb9 := HS9.out.base
      obtain ⟨a9, c9, hv⟩ := own_form hown
      subst hv
      clear hown hst hfr HSA HRO hvl
      go_wp2_with (at_builtin; refine wpList_plain rfl fun K hK => wp_append_rows9 _ _ rfl w.heap.size _ [a] rfl HR9.out _ vs rfl _ HOV HVL.out hb9 ?_)
      intro v6 w6 hown6 hg6
      have hown7 : w6.ownsRow w.heap.size 3 1 v6 vn.length (vn.map (Value.int .i64)) := by rw [← HVN.out]; first | exact hown6 | simpa using hown6
      have HU := HS9.out.push8 HR9.out hg6 hown7
      have d1 := blk9 HU.2 1 _ rfl
      have z1 := frz9 HU.2 1
      have HSN : Hid (ConT c w (w6.setCell ⟨w.heap.size + 1, 1, none⟩ v6) p9 v6 (.slice none 0 0) (.slice none 0 0) (.slice none 0 0) ⟨8, vn, [], 0, [], []⟩) := HU.1
      obtain ⟨a6, c6, hv6⟩ := own_form hown7
      subst hv6
      clear HU hg6 HS9 HR9 HOV hown6 hown7 HVN HVL
      refine hK _ _ ?_
      go_wp2_with fail
      go_meet
      refine ⟨(.slice a6 vn.length c6), (.slice none 0 0), (.slice none 0 0), (.slice none 0 0), ?_⟩
      rw [HE.out]
      exact HSN.out
    · subst hkk
      have HE : Hid (Q = (⟨9, [], [], 0, [], (listR c.en c.T (litR c.en c.T c.nm) p1).1⟩, (listR c.en c.T (litR c.en c.T c.nm) p1).2)) := by show _ = _; rw [HQ.out]; unfold bodyR; simp only [show ¬ ((9 : Int) = 1 ∨ (9 : Int) = 2 ∨ (9 : Int) = 3) by decide, if_false, show ¬ ((9 : Int) = 4) by decide, show ¬ ((9 : Int) = 5) by decide, show ¬ ((9 : Int) = 6) by decide, show ¬ ((9 : Int) = 7) by decide, show ¬ ((9 : Int) = 8) by decide, if_true]
      clear HQ
      obtain ⟨L, hL⟩ : ∃ L, listR c.en c.T (litR c.en c.T c.nm) p1 = L := ⟨_, rfl⟩
      rw [hL] at HE
      have HQ2 : Hid (loopR c.en c.T (litR c.en c.T c.nm) (c.T.length + 2) [] (more1R c.en c.T p1) = L) := hL
      clear hL
      go_wp2_with fail
      refine (rmore1_any c p1 _ HS2.out.st).mono ?_
      rintro e wm ⟨rfl, hst, hfr⟩
      obtain ⟨q, hq⟩ : ∃ q, more1R c.en c.T p1 = q := ⟨_, rfl⟩
      rw [hq] at HQ2 hst ⊢
      obtain ⟨bm, pm⟩ := q
      have HSM : Hid (ConT c w wm pm (.slice none 0 0) (.slice none 0 0) (.slice none 0 0) (.slice none 0 0) ⟨9, [], [], 0, [], []⟩) := HS2.out.call hfr hst
      clear hst hfr hq HS2
      dsimp only
      go_wp2_with fail
      go_loopw [11] (fun mo wr => ∃ (f : Nat) (acc : List MLit) (b : Bool) (p : RP) (vx : Value), Hid (loopR c.en c.T (litR c.en c.T c.nm) f acc (b, p) = L) ∧ mo = .bool b ∧ Hid (ConT c w wr p (.slice none 0 0) (.slice none 0 0) (.slice none 0 0) vx ⟨9, [], [], 0, [], acc⟩) ∧ acc.length + f = c.T.length + 2 ∧ (b = true → c.T.length + 2 ≤ f + p.k)) (fun _ wr => c.T.length + 3 - cellLen wr ⟨w.heap.size + 1, 5, none⟩)
      case atStart => exact ⟨c.T.length + 2, [], bm, pm, _, HQ2, rfl, HSM, by simp, fun _ => by omega⟩
      case round =>
        clear HQ2 HSM
        obtain ⟨f, acc, b, p2, vx, HQ2, rfl, HS2, haf, hbf⟩ := hrel
        have HKT := HS2.out.st.kT
        obtain ⟨al, cl, rfl⟩ := own_form HS2.out.own.2.2.2
        cases b
        · have HL : Hid (L = (acc, p2)) := HQ2.out.symm.trans (loop_end _ _ _ _ _ _)
          clear hbf HQ2
          go_wp2_with fail
          go_meet
          refine ⟨(.slice none 0 0), (.slice none 0 0), (.slice none 0 0), (.slice al acc.length cl), ?_⟩
          rw [HE.out, HL.out]
          exact HS2.out
        · have hbf2 := hbf rfl
          obtain ⟨g, rfl⟩ : ∃ g, f = g + 1 := ⟨f - 1, by omega⟩
          have HQ3 : Hid (loopR c.en c.T (litR c.en c.T c.nm) g (acc ++ [((litR c.en c.T c.nm) p2).1]) (more2R c.en c.T ((litR c.en c.T c.nm) p2).2) = L) := (loop_go _ _ _ _ _ _).symm.trans HQ2.out
          have HLN : Hid (acc.length ≤ 5000) := by show _ ≤ _; omega
          have HM0 : Hid (cellLen wr ⟨w.heap.size + 1, 5, none⟩ = acc.length) := by show _ = _; unfold cellLen; rw [blk9 HS2.out.con 5 _ rfl]; rfl
          clear hbf HQ2
          go_wp2_with fail
          have c1 : wr.cell? ⟨w.heap.size + 1, 5, none⟩ = some (.slice al acc.length cl) := blk9 HS2.out.con 5 _ rfl
          have HSD : Hid (ConT c w wr.drew p2 (.slice none 0 0) (.slice none 0 0) (.slice none 0 0) (.slice al acc.length cl) ⟨9, [], [], 0, [], acc⟩) := HS2.out.below (Below.refl _ _).drew
          have hnv := rlitR_any c p2 wr.drew HSD.out.st
          have HKK : Hid (p2.k ≤ ((litR c.en c.T c.nm) p2).2.k) := lit_k c.en c.T c.nm p2
          obtain ⟨q, hq⟩ : ∃ q, (litR c.en c.T c.nm) p2 = q := ⟨_, rfl⟩
          rw [hq] at hnv HQ3 HKK
          obtain ⟨x, p3⟩ := q
          clear hq
          dsimp only at hnv HQ3 HKK
          go_region_law
            (first
              | (rw [if_pos (by rfl)]; refine wp_append_own _ _ _ 37 rfl w.heap.size 88 iL _ 3 24 Tryz.underLits5 hiL hzL0 hzL1 hzL2 rfl (by decide) _ _ _ rfl (HT.own.2.2.2.alloc _) ⟨w8.heap.size, 0, none⟩ 1 1 (litC x) rfl rfl (one_laidL w8 x) (litC_one x) ?_ ?_ ?_ ?_; (have := HLN.out; unfold maxLen; dsimp only; omega); (have := HLN.out; dsimp only; omega); (have := HT.base; simp; omega); intro v9 w9 hown9 hg9 _; have HU := HT.pushLit hg9 rfl hown9; have d0 := blk9 HU.2 5 _ rfl; have z0 := frz9 HU.2 5; obtain ⟨a9, b9, hv9⟩ := own_form hown9; subst hv9)
              | (rw [if_pos (by rfl)]; go_simp; go_at_call 118; refine hnv.mono ?_; rintro e w8 ⟨rfl, hst8, hfr8⟩; have HT := HSD.out.call hfr8 hst8; have c8 := blk9 HT.con 5 _ rfl; have hl8 : w.heap.size + 1 < w8.heap.size := (Array.getElem?_eq_some_iff.1 HT.con).1; unfold litA; dsimp only))
          all_goals
            have HSN : Hid (ConT c w (w9.setCell ⟨w.heap.size + 1, 5, none⟩ (.slice a9 (acc.length + 1) b9)) p3 (.slice none 0 0) (.slice none 0 0) (.slice none 0 0) (.slice a9 (acc.length + 1) b9) ⟨9, [], [], 0, [], (acc ++ [x])⟩) := HU.1
            clear HT HU HSD hnv hg9 hown9 c1 c8 HS2 hst8 hfr8
            go_wp2_with fail
            clear d0 z0
            refine (rmore2_any c p3 _ HSN.out.st).mono ?_
            rintro e w4 ⟨rfl, h4, hf4⟩
            have HM2 : Hid ((more2R c.en c.T p3).1 = true → (more2R c.en c.T p3).2.k = p3.k + 1) := more2_k c.en c.T p3
            obtain ⟨q, hq⟩ : ∃ q, more2R c.en c.T p3 = q := ⟨_, rfl⟩
            rw [hq] at HQ3 h4 HM2 ⊢
            obtain ⟨b4, p4⟩ := q
            have HS4 : Hid (ConT c w w4 p4 (.slice none 0 0) (.slice none 0 0) (.slice none 0 0) (.slice a9 (acc.length + 1) b9) ⟨9, [], [], 0, [], (acc ++ [x])⟩) := HSN.out.call hf4 h4
            clear h4 hf4 hq HSN
            dsimp only at *
            have HB4 : Hid (b4 = true → c.T.length + 2 ≤ g + p4.k) := fun hb => by have h1 := HM2.out hb; have h2 := HKK.out; omega
            have HM4 : Hid (cellLen w4 ⟨w.heap.size + 1, 5, none⟩ = acc.length + 1) := by show _ = _; unfold cellLen; rw [blk9 HS4.out.con 5 _ rfl]; rfl
            go_wp2
            go_roundw
            case rel => exact ⟨g, acc ++ [x], b4, p4, _, HQ3, rfl, HS4, by simp; omega, HB4.out⟩
            case measure => have h1 := HM0.out; have h2 := HM4.out; simp only [h1, h2]; omega
    · subst hkk
      have HE : Hid (Q = (⟨10, [(vR c.en c.T c.nm p1).1], [], 0, [], [(litR c.en c.T c.nm (vR c.en c.T c.nm p1).2).1]⟩, (litR c.en c.T c.nm (vR c.en c.T c.nm p1).2).2)) := by show _ = _; rw [HQ.out]; unfold bodyR; simp only [show ¬ ((10 : Int) = 1 ∨ (10 : Int) = 2 ∨ (10 : Int) = 3) by decide, if_false, show ¬ ((10 : Int) = 4) by decide, show ¬ ((10 : Int) = 5) by decide, show ¬ ((10 : Int) = 6) by decide, show ¬ ((10 : Int) = 7) by decide, show ¬ ((10 : Int) = 8) by decide, show ¬ ((10 : Int) = 9) by decide, if_true]
      clear HQ
      go_wp2_with fail
      refine (rv_any c p1 _ HS2.out.st).mono ?_
      rintro e w2 ⟨rfl, hst, hfr⟩
      obtain ⟨q, hq⟩ : ∃ q, vR c.en c.T c.nm p1 = q := ⟨_, rfl⟩
      rw [hq] at hst HE ⊢
      obtain ⟨a, p2⟩ := q
      clear hq
      dsimp only at hst HE ⊢
      have HS3 : Hid (ConT c w w2 p2 (.slice none 0 0) (.slice none 0 0) (.slice none 0 0) (.slice none 0 0) ⟨10, [], [], 0, [], []⟩) := HS2.out.call hfr hst
      clear hst hfr HS2
      have k0 : w2.cell? ⟨w.heap.size + 1, 1, none⟩ = some (.slice none 0 0) := blk9 HS3.out.con 1 _ rfl
      have z0 := frz9 HS3.out.con 1
      have l0 : w.heap.size + 1 < w2.heap.size := (Array.getElem?_eq_some_iff.1 HS3.out.con).1
      have HSY : Hid (ConT c w ((w2.setCell ⟨w.heap.size + 1, 1, none⟩ (.slice (some ⟨w2.heap.size, 0, none⟩) 1 1)).alloc (.cells #[.int .i64 a] 3)) p2 (.slice (some ⟨w2.heap.size, 0, none⟩) 1 1) (.slice none 0 0) (.slice none 0 0) (.slice none 0 0) ⟨10, [a], [], 0, [], []⟩) := HS3.out.varsLit [a] (by simp)
      clear HS3
      go_wp2_with fail
      clear k0 z0 l0
      obtain ⟨av, hav⟩ : ∃ av : Option Addr, some ⟨w2.heap.size, 0, none⟩ = av := ⟨_, rfl⟩
      obtain ⟨yy, hyy⟩ : ∃ yy, (w2.setCell ⟨w.heap.size + 1, 1, none⟩ (.slice (some ⟨w2.heap.size, 0, none⟩) 1 1)).alloc (.cells #[.int .i64 a] 3) = yy := ⟨_, rfl⟩
      rw [hyy, hav] at HSY
      rw [hyy]
      clear hyy hav
      have HLN : Hid (([] : List MLit).length ≤ 5000) := by show _ ≤ _; simp
      have c1 : yy.cell? ⟨w.heap.size + 1, 5, none⟩ = some (.slice none 0 0) := blk9 HSY.out.con 5 _ rfl
      have HSD : Hid (ConT c w yy.drew p2 (.slice av 1 1) (.slice none 0 0) (.slice none 0 0) (.slice none 0 0) ⟨10, [a], [], 0, [], []⟩) := HSY.out.below (Below.refl _ _).drew
      have hnv := rlitR_any c p2 yy.drew HSD.out.st
      obtain ⟨q, hq⟩ : ∃ q, (litR c.en c.T c.nm) p2 = q := ⟨_, rfl⟩
      rw [hq] at hnv HE
      obtain ⟨x, p3⟩ := q
      clear hq
      dsimp only at hnv HE
      go_region_law
        (first
          | (rw [if_pos (by rfl)]; refine wp_append_own _ _ _ 37 rfl w.heap.size 88 iL _ 3 24 Tryz.underLits5 hiL hzL0 hzL1 hzL2 rfl (by decide) _ _ _ rfl (HT.own.2.2.2.alloc _) ⟨w8.heap.size, 0, none⟩ 1 1 (litC x) rfl rfl (one_laidL w8 x) (litC_one x) ?_ ?_ ?_ ?_; (have := HLN.out; unfold maxLen; dsimp only; omega); (have := HLN.out; dsimp only; omega); (have := HT.base; simp; omega); intro v9 w9 hown9 hg9 _; have HU := HT.pushLit hg9 rfl hown9; have d0 := blk9 HU.2 5 _ rfl; have z0 := frz9 HU.2 5; obtain ⟨a9, b9, hv9⟩ := own_form hown9; subst hv9)
          | (rw [if_pos (by rfl)]; go_simp; go_at_call 118; refine hnv.mono ?_; rintro e w8 ⟨rfl, hst8, hfr8⟩; have HT := HSD.out.call hfr8 hst8; have c8 := blk9 HT.con 5 _ rfl; have hl8 : w.heap.size + 1 < w8.heap.size := (Array.getElem?_eq_some_iff.1 HT.con).1; unfold litA; dsimp only))
      all_goals
        have HSN : Hid (ConT c w (w9.setCell ⟨w.heap.size + 1, 5, none⟩ (.slice a9 1 b9)) p3 (.slice av 1 1) (.slice none 0 0) (.slice none 0 0) (.slice a9 1 b9) ⟨10, [a], [], 0, [], [x]⟩) := HU.1
        clear HT HU HSD hnv hg9 hown9 c1 c8 HSY
        go_wp2_with fail
        go_meet
        refine ⟨(.slice av 1 1), (.slice none 0 0), (.slice none 0 0), (.slice a9 1 b9), ?_⟩
        rw [HE.out]
        exact HSN.out
    · subst hkk
      have HE : Hid (Q = (⟨11, [], [], 0, [], []⟩, p1)) := by show _ = _; rw [HQ.out]; rfl
      clear HQ
      go_wp2_with fail
      go_meet
      refine ⟨(.slice none 0 0), (.slice none 0 0), (.slice none 0 0), (.slice none 0 0), ?_⟩
      rw [HE.out]
      exact HS2.out
  case rest =>
    obtain ⟨vv, vc, vr, vl, hT⟩ := hcut.out
    have HT : Hid (ConT c w wc Q.2 vv vc vr vl Q.1) := hT
    obtain ⟨a1, c1, rfl⟩ := own_form hT.own.1
    obtain ⟨a2, c2, rfl⟩ := own_form hT.own.2.1
    obtain ⟨a3, c3, rfl⟩ := hT.own.2.2.1.form
    obtain ⟨a4, c4, rfl⟩ := own_form hT.own.2.2.2
    have k0 := blk9 hT.con 0 _ rfl
    have k1 := blk9 hT.con 1 _ rfl
    have k2 := blk9 hT.con 2 _ rfl
    have k3 := blk9 hT.con 3 _ rfl
    have k4 := blk9 hT.con 4 _ rfl
    have k5 := blk9 hT.con 5 _ rfl
    have r0 := blk9 hT.res 0 _ rfl
    have r1 := blk9 hT.res 1 _ rfl
    have r2 := blk9 hT.res 2 _ rfl
    have r3 := blk9 hT.res 3 _ rfl
    have r4 := blk9 hT.res 4 _ rfl
    have r5 := blk9 hT.res 5 _ rfl
    have x0 := frz9 hT.res 0
    have x1 := frz9 hT.res 1
    have x2 := frz9 hT.res 2
    have x3 := frz9 hT.res 3
    have x4 := frz9 hT.res 4
    have x5 := frz9 hT.res 5
    have HEND := HT.out.endd
    clear hT hcut
    go_wp2
    refine bodyPost_ret (by simp [results, Tryz.results62, go_sem, *]; try rfl) rfl ?_
    obtain ⟨e1, e2, e3⟩ := HEND _ _ _ _ _ _ _ rfl
    exact ⟨_, _, _, _, rfl, e1, e2, e3⟩
end Go.Proofs.YtdjbejlbmaiocagGreatDoor
/-
  WALKS: the reference's check of a model: inConst, CheckLit.
-/
namespace Go.Proofs.YtdjbejlbmaiocagGreatDoor
open Go.RowKit

set_option maxHeartbeats 400000 in
theorem inconst_any (n : Int) (w : World) :
    Calls Tryz.prog 93 #[.int .i64 n] w fun e w' => e = .returned (.bool (isConstB n)) ∧ w' = w := by
  obtain ⟨B, hB⟩ : ∃ B, isConstB n = B := ⟨_, rfl⟩
  have HB : Hid ((decide (-1000 ≤ n) && decide (n ≤ 1000)) = B) := hB
  rw [hB]
  clear hB
  go_enter Tryz.func93, Tryz.ntmps93
  go_wp2_with fail
  refine (between_any _ _ _ _).mono ?_
  rintro e w ⟨rfl, rfl⟩
  rw [HB.out]
  go_wp2
  go_ret
  exact ⟨rfl, rfl⟩
set_option maxHeartbeats 1600000 in
set_option maxRecDepth 100000 in
theorem rchecklit_any (m : Mod) (l : MLit) (a : Option Addr) (cap : Nat) (cs : Value) (w : World) (hm : m.vars.length ≤ maxLen) :
    Calls Tryz.prog 94 #[.agg #[.slice a m.vars.length cap, cs, .int .i64 m.goal, .int .i64 m.var], .agg #[.int .i64 l.var, .int .i64 l.op, .int .i64 l.n]] w fun e w' => e = .returned (.int .i64 (litE m.vars l)) ∧ Below w.heap.size w w' := by
  obtain ⟨E, hE⟩ : ∃ E, litE m.vars l = E := ⟨_, rfl⟩
  have HE : Hid (E = if l.var < 0 ∨ (m.vars.length : Int) ≤ l.var then 5 else if l.op < 1 ∨ 4 < l.op then 7 else if l.n < -1000 ∨ 1000 < l.n then 3 else 0) := by show _ = _; rw [← hE]; rfl
  rw [hE]
  have HB : Hid (Below w.heap.size w ((w.alloc (.cells #[.slice a m.vars.length cap, cs, .int .i64 m.goal, .int .i64 m.var] 25)).alloc (.cells #[.int .i64 l.var, .int .i64 l.op, .int .i64 l.n] 88))) := (below_alloc _ _).alloc (by simp) _
  unfold maxLen at hm
  clear hE
  go_enter Tryz.func94, Tryz.ntmps94
  go_wp2_with fail
  refine (between_any _ _ _ _).mono ?_
  rintro e wq ⟨rfl, rfl⟩
  by_cases h1 : l.var < 0 ∨ (m.vars.length : Int) ≤ l.var
  · have HN : Hid (E = 5) := by show _ = _; rw [HE.out, if_pos h1]
    have q : (decide (0 ≤ l.var) && decide (l.var ≤ (m.vars.length : Int) - 1)) = false := by rw [Bool.and_eq_false_iff]; simp; omega
    rw [q]
    go_wp2
    go_ret
    exact ⟨by rw [HN.out]; rfl, HB.out⟩
  · have q : (decide (0 ≤ l.var) && decide (l.var ≤ (m.vars.length : Int) - 1)) = true := by rw [Bool.and_eq_true]; simp; omega
    rw [q]
    go_wp2_with fail
    refine (between_any _ _ _ _).mono ?_
    rintro e wq ⟨rfl, rfl⟩
    by_cases h2 : l.op < 1 ∨ 4 < l.op
    · have HN : Hid (E = 7) := by show _ = _; rw [HE.out, if_neg h1, if_pos h2]
      have q : (decide (1 ≤ l.op) && decide (l.op ≤ 4)) = false := by rw [Bool.and_eq_false_iff]; simp; omega
      rw [q]
      go_wp2
      go_ret
      exact ⟨by rw [HN.out]; rfl, HB.out⟩
    · have q : (decide (1 ≤ l.op) && decide (l.op ≤ 4)) = true := by rw [Bool.and_eq_true]; simp; omega
      rw [q]
      go_wp2_with fail
      refine (inconst_any _ _).mono ?_
      rintro e wq ⟨rfl, rfl⟩
      by_cases h3 : l.n < -1000 ∨ 1000 < l.n
      · have HN : Hid (E = 3) := by show _ = _; rw [HE.out, if_neg h1, if_neg h2, if_pos h3]
        have q : isConstB l.n = false := by unfold isConstB inB; rw [Bool.and_eq_false_iff]; simp; omega
        rw [q]
        go_wp2
        go_ret
        exact ⟨by rw [HN.out]; rfl, HB.out⟩
      · have HN : Hid (E = 0) := by show _ = _; rw [HE.out, if_neg h1, if_neg h2, if_neg h3]
        have q : isConstB l.n = true := by unfold isConstB inB; rw [Bool.and_eq_true]; simp; omega
        rw [q]
        go_wp2
        go_ret
        exact ⟨by rw [HN.out]; rfl, HB.out⟩
end Go.Proofs.YtdjbejlbmaiocagGreatDoor
/-
  WALK: the reference's check of a model: rightForm. (Made by genrcb.py.)
-/
namespace Go.Proofs.YtdjbejlbmaiocagGreatDoor
open Go.RowKit

set_option maxHeartbeats 4000000 in
set_option maxRecDepth 100000 in
theorem rform_any (c : MCon) (vv vc vr vl : Value) (w : World) (hk : KArg w vv vc vr vl c) (h10 : 1 ≤ c.kind ∧ c.kind ≤ 10) (l1 : c.vars.length ≤ 4) (l2 : c.consts.length ≤ 8) (l3 : c.rows.length ≤ 20) (l4 : c.lits.length ≤ 4) :
    Calls Tryz.prog 92 #[conV vv vc vr vl c] w fun e w' => e = .returned (.bool (formB c)) ∧ Below w.heap.size w w' := by
  obtain ⟨⟨a1, c1, rfl, _, _⟩, ⟨a2, c2, rfl, _, _⟩, hr, ⟨a4, c4, rfl, _, _⟩⟩ := hk
  have HRR : Hid (∀ w' : World, Below w.heap.size w w' → RArg w' vr c.rows) := fun w' h => RArg.below h hr
  obtain ⟨a3, c3, rfl, _, _⟩ := hr
  obtain ⟨R, hR⟩ : ∃ R, formB c = R := ⟨_, rfl⟩
  rw [hR]
  unfold formB at hR
  unfold conV
  obtain ⟨k, hkk⟩ : ∃ k, c.kind = k := ⟨_, rfl⟩
  rw [hkk] at hR h10 ⊢
  have hcases : k = 1 ∨ k = 2 ∨ k = 3 ∨ k = 4 ∨ k = 5 ∨ k = 6 ∨ k = 7 ∨ k = 8 ∨ k = 9 ∨ k = 10 := by omega
  clear h10
  rcases hcases with rfl | rfl | rfl | rfl | rfl | rfl | rfl | rfl | rfl | rfl
  · have HR : Hid (R = (decide (1 ≤ c.vars.length) && (decide (c.consts.length = c.vars.length) && decide (c.rows.length + c.lits.length = 0)))) := by show _ = _; rw [← hR, if_pos (by decide)]
    clear hR hkk
    go_enter Tryz.func92, Tryz.ntmps92
    go_wp2
    go_quiet (fail)
    go_wp2
    all_goals
      go_ret
      refine ⟨ret_bool ?_, below_drewN (below_alloc _ _) _⟩
      rw [HR.out]
      clear HR HRR
      first
        | rfl
        | (try simp only [beq_eq_false_iff_ne, beq_iff_eq, ne_eq] at *
           try simp only [← List.length_eq_zero_iff] at *
           rw [Bool.eq_iff_iff]
           simp only [Bool.and_eq_true, decide_eq_true_eq, beq_iff_eq, Bool.false_eq_true, false_iff]
           omega)
  · have HR : Hid (R = (decide (1 ≤ c.vars.length) && (decide (c.consts.length = c.vars.length) && decide (c.rows.length + c.lits.length = 0)))) := by show _ = _; rw [← hR, if_pos (by decide)]
    clear hR hkk
    go_enter Tryz.func92, Tryz.ntmps92
    go_wp2
    go_quiet (fail)
    go_wp2
    all_goals
      go_ret
      refine ⟨ret_bool ?_, below_drewN (below_alloc _ _) _⟩
      rw [HR.out]
      clear HR HRR
      first
        | rfl
        | (try simp only [beq_eq_false_iff_ne, beq_iff_eq, ne_eq] at *
           try simp only [← List.length_eq_zero_iff] at *
           rw [Bool.eq_iff_iff]
           simp only [Bool.and_eq_true, decide_eq_true_eq, beq_iff_eq, Bool.false_eq_true, false_iff]
           omega)
  · have HR : Hid (R = (decide (1 ≤ c.vars.length) && (decide (c.consts.length = c.vars.length) && decide (c.rows.length + c.lits.length = 0)))) := by show _ = _; rw [← hR, if_pos (by decide)]
    clear hR hkk
    go_enter Tryz.func92, Tryz.ntmps92
    go_wp2
    go_quiet (fail)
    go_wp2
    all_goals
      go_ret
      refine ⟨ret_bool ?_, below_drewN (below_alloc _ _) _⟩
      rw [HR.out]
      clear HR HRR
      first
        | rfl
        | (try simp only [beq_eq_false_iff_ne, beq_iff_eq, ne_eq] at *
           try simp only [← List.length_eq_zero_iff] at *
           rw [Bool.eq_iff_iff]
           simp only [Bool.and_eq_true, decide_eq_true_eq, beq_iff_eq, Bool.false_eq_true, false_iff]
           omega)
  · rw [if_neg (by decide)] at hR
    by_cases hn : c.n = 0
    · have hn0 : (c.n != 0) = false := by simpa using hn
      have HR : Hid (R = (decide (1 ≤ c.vars.length) && decide (c.consts.length + c.rows.length + c.lits.length = 0))) := by show _ = _; rw [← hR, if_neg (fun h => h hn)]; simp only [if_true]
      clear hR hkk hn
      go_enter Tryz.func92, Tryz.ntmps92
      go_wp2
      go_quiet (fail)
      go_wp2
      all_goals
        go_ret
        refine ⟨ret_bool ?_, below_drewN (below_alloc _ _) _⟩
        rw [HR.out]
        clear HR HRR
        first
          | rfl
          | (try simp only [beq_eq_false_iff_ne, beq_iff_eq, ne_eq] at *
             try simp only [← List.length_eq_zero_iff] at *
             rw [Bool.eq_iff_iff]
             simp only [Bool.and_eq_true, decide_eq_true_eq, beq_iff_eq, Bool.false_eq_true, false_iff]
             omega)
    · have hn0 : (c.n != 0) = true := by simpa using hn
      have HR : Hid (R = false) := by show _ = _; rw [← hR, if_pos hn]
      clear hR hkk hn
      go_enter Tryz.func92, Tryz.ntmps92
      go_wp2
      go_quiet (fail)
      go_wp2
      go_ret
      exact ⟨ret_bool HR.out.symm, below_drewN (below_alloc _ _) _⟩
  · rw [if_neg (by decide)] at hR
    by_cases hn : c.n = 0
    · have hn0 : (c.n != 0) = false := by simpa using hn
      have HR : Hid (R = (decide (c.vars.length = 2) && (decide (1 ≤ c.consts.length) && decide (c.rows.length + c.lits.length = 0)))) := by show _ = _; rw [← hR, if_neg (fun h => h hn)]; simp only [show ¬ ((5 : Int) = 4) by decide, if_true, if_false]
      clear hR hkk hn
      go_enter Tryz.func92, Tryz.ntmps92
      go_wp2
      go_quiet (fail)
      go_wp2
      all_goals
        go_ret
        refine ⟨ret_bool ?_, below_drewN (below_alloc _ _) _⟩
        rw [HR.out]
        clear HR HRR
        first
          | rfl
          | (try simp only [beq_eq_false_iff_ne, beq_iff_eq, ne_eq] at *
             try simp only [← List.length_eq_zero_iff] at *
             rw [Bool.eq_iff_iff]
             simp only [Bool.and_eq_true, decide_eq_true_eq, beq_iff_eq, Bool.false_eq_true, false_iff]
             omega)
    · have hn0 : (c.n != 0) = true := by simpa using hn
      have HR : Hid (R = false) := by show _ = _; rw [← hR, if_pos hn]
      clear hR hkk hn
      go_enter Tryz.func92, Tryz.ntmps92
      go_wp2
      go_quiet (fail)
      go_wp2
      go_ret
      exact ⟨ret_bool HR.out.symm, below_drewN (below_alloc _ _) _⟩
  · rw [if_neg (by decide)] at hR
    by_cases hn : c.n = 0
    · have hn0 : (c.n != 0) = false := by simpa using hn
      have HR : Hid (R = (decide (1 ≤ c.vars.length) && (decide (c.consts.length + c.lits.length = 0) && c.rows.all fun r => decide (r.length = c.vars.length)))) := by show _ = _; rw [← hR, if_neg (fun h => h hn)]; simp only [show ¬ ((6 : Int) = 4) by decide, show ¬ ((6 : Int) = 5) by decide, if_true, if_false]
      clear hR hkk hn
      go_enter Tryz.func92, Tryz.ntmps92
      go_wp2
      go_quiet (fail)
      go_wp2
      have HBW : Hid (Below w.heap.size w ((w.alloc (.cells #[.int .i64 6, .slice a1 c.vars.length c1, .slice a2 c.consts.length c2, .int .i64 c.n, .slice a3 c.rows.length c3, .slice a4 c.lits.length c4] 73)).drewN nq)) := below_drewN (below_alloc _ _) _
      have k4 : ((w.alloc (.cells #[.int .i64 6, .slice a1 c.vars.length c1, .slice a2 c.consts.length c2, .int .i64 c.n, .slice a3 c.rows.length c3, .slice a4 c.lits.length c4] 73)).drewN nq).cell? ⟨w.heap.size, 4, none⟩ = some (.slice a3 c.rows.length c3) := by simp
      obtain ⟨W, hW⟩ : ∃ W, ((w.alloc (.cells #[.int .i64 6, .slice a1 c.vars.length c1, .slice a2 c.consts.length c2, .int .i64 c.n, .slice a3 c.rows.length c3, .slice a4 c.lits.length c4] 73)).drewN nq) = W := ⟨_, rfl⟩
      rw [hW] at HBW k4 ⊢
      clear hW
      have hRA := HRR.out W HBW.out
      clear HRR
      obtain ⟨a9, c9, e9, hm, hr⟩ := hRA
      injection e9 with e91 _ e92
      subst e91 e92
      have HV : Hid (∀ (i : Nat) (r : List Int), c.rows[i]? = some r → ∃ b off x, a3 = some ⟨b, off, none⟩ ∧ b < W.heap.size ∧ W.cell? ⟨b, off + i, none⟩ = some x ∧ IArg W x r) := hr
      unfold maxLen at hm
      obtain ⟨hm1, hm⟩ := hm
      clear hr
      go_loop [7] (fun i => ∃ m : Nat, m ≤ c.rows.length ∧ i = .int .i64 m ∧ Hid ((c.rows.take m).all (fun r => decide (r.length = c.vars.length)) = true)) (fun i => c.rows.length - (intOf i).toNat)
      case atStart => exact ⟨0, by omega, rfl, rfl⟩
      case round =>
        obtain ⟨m, hml, rfl, hall⟩ := hrel
        by_cases hlt : m < c.rows.length
        · obtain ⟨z, hz⟩ : ∃ z, c.rows[m]? = some z := ⟨c.rows[m], by simp [hlt]⟩
          obtain ⟨b, off, x, ha, hb, hc, hx⟩ := HV.out m z hz
          obtain ⟨a9, c9, rfl, hm2, _⟩ := hx
          have HZ : Hid (c.rows[m]? = some z) := hz
          subst ha
          clear hz hm2
          by_cases hq : z.length = c.vars.length
          · have HN : Hid ((c.rows.take (m + 1)).all (fun r => decide (r.length = c.vars.length)) = true) := all_next _ c.rows m z HZ.out hall.out (decide_eq_true hq)
            have hq2 : ((z.length : Int) != (c.vars.length : Int)) = false := by simp [hq]
            clear hq
            go_wp2
            go_round
            case rel => exact ⟨m + 1, by omega, by go_num, HN⟩
            case measure => simp [intOf]; omega
          · have HN : Hid (R = false) := by show _ = _; rw [HR.out, all_hit _ c.rows m z HZ.out (decide_eq_false hq)]; simp
            have hq2 : ((z.length : Int) != (c.vars.length : Int)) = true := by simp; omega
            clear hq
            go_wp2
            go_ret
            exact ⟨ret_bool HN.out.symm, HBW.out⟩
        · have HN : Hid (R = (decide (1 ≤ c.vars.length) && decide (c.consts.length + c.lits.length = 0))) := by show _ = _; rw [HR.out, all_end _ c.rows m hlt hall.out]; simp
          clear HV hall HR k4
          go_wp2
          all_goals
            go_ret
            refine ⟨ret_bool ?_, HBW.out⟩
            rw [HN.out]
            clear HN HBW
            first
              | rfl
              | (try simp only [beq_eq_false_iff_ne, beq_iff_eq, ne_eq] at *
                 try simp only [← List.length_eq_zero_iff] at *
                 rw [Bool.eq_iff_iff]
                 simp only [Bool.and_eq_true, decide_eq_true_eq, beq_iff_eq, Bool.false_eq_true, false_iff]
                 omega)
    · have hn0 : (c.n != 0) = true := by simpa using hn
      have HR : Hid (R = false) := by show _ = _; rw [← hR, if_pos hn]
      clear hR hkk hn
      go_enter Tryz.func92, Tryz.ntmps92
      go_wp2
      go_quiet (fail)
      go_wp2
      go_ret
      exact ⟨ret_bool HR.out.symm, below_drewN (below_alloc _ _) _⟩
  · rw [if_neg (by decide)] at hR
    by_cases hn : c.n = 0
    · have hn0 : (c.n != 0) = false := by simpa using hn
      have HR : Hid (R = (decide (c.vars.length = 3) && decide (c.consts.length + c.rows.length + c.lits.length = 0))) := by show _ = _; rw [← hR, if_neg (fun h => h hn)]; simp only [show ¬ ((7 : Int) = 4) by decide, show ¬ ((7 : Int) = 5) by decide, show ¬ ((7 : Int) = 6) by decide, if_true, if_false]
      clear hR hkk hn
      go_enter Tryz.func92, Tryz.ntmps92
      go_wp2
      go_quiet (fail)
      go_wp2
      all_goals
        go_ret
        refine ⟨ret_bool ?_, below_drewN (below_alloc _ _) _⟩
        rw [HR.out]
        clear HR HRR
        first
          | rfl
          | (try simp only [beq_eq_false_iff_ne, beq_iff_eq, ne_eq] at *
             try simp only [← List.length_eq_zero_iff] at *
             rw [Bool.eq_iff_iff]
             simp only [Bool.and_eq_true, decide_eq_true_eq, beq_iff_eq, Bool.false_eq_true, false_iff]
             omega)
    · have hn0 : (c.n != 0) = true := by simpa using hn
      have HR : Hid (R = false) := by show _ = _; rw [← hR, if_pos hn]
      clear hR hkk hn
      go_enter Tryz.func92, Tryz.ntmps92
      go_wp2
      go_quiet (fail)
      go_wp2
      go_ret
      exact ⟨ret_bool HR.out.symm, below_drewN (below_alloc _ _) _⟩
  · rw [if_neg (by decide)] at hR
    by_cases hn : c.n = 0
    · have hn0 : (c.n != 0) = false := by simpa using hn
      have HR : Hid (R = (decide (2 ≤ c.vars.length) && decide (c.consts.length + c.rows.length + c.lits.length = 0))) := by show _ = _; rw [← hR, if_neg (fun h => h hn)]; simp only [show ¬ ((8 : Int) = 4) by decide, show ¬ ((8 : Int) = 5) by decide, show ¬ ((8 : Int) = 6) by decide, show ¬ ((8 : Int) = 7) by decide, if_true, if_false]
      clear hR hkk hn
      go_enter Tryz.func92, Tryz.ntmps92
      go_wp2
      go_quiet (fail)
      go_wp2
      all_goals
        go_ret
        refine ⟨ret_bool ?_, below_drewN (below_alloc _ _) _⟩
        rw [HR.out]
        clear HR HRR
        first
          | rfl
          | (try simp only [beq_eq_false_iff_ne, beq_iff_eq, ne_eq] at *
             try simp only [← List.length_eq_zero_iff] at *
             rw [Bool.eq_iff_iff]
             simp only [Bool.and_eq_true, decide_eq_true_eq, beq_iff_eq, Bool.false_eq_true, false_iff]
             omega)
    · have hn0 : (c.n != 0) = true := by simpa using hn
      have HR : Hid (R = false) := by show _ = _; rw [← hR, if_pos hn]
      clear hR hkk hn
      go_enter Tryz.func92, Tryz.ntmps92
      go_wp2
      go_quiet (fail)
      go_wp2
      go_ret
      exact ⟨ret_bool HR.out.symm, below_drewN (below_alloc _ _) _⟩
  · rw [if_neg (by decide)] at hR
    by_cases hn : c.n = 0
    · have hn0 : (c.n != 0) = false := by simpa using hn
      have HR : Hid (R = (decide (c.vars.length + c.consts.length + c.rows.length = 0))) := by show _ = _; rw [← hR, if_neg (fun h => h hn)]; simp only [show ¬ ((9 : Int) = 4) by decide, show ¬ ((9 : Int) = 5) by decide, show ¬ ((9 : Int) = 6) by decide, show ¬ ((9 : Int) = 7) by decide, show ¬ ((9 : Int) = 8) by decide, if_true, if_false]
      clear hR hkk hn
      go_enter Tryz.func92, Tryz.ntmps92
      go_wp2
      go_quiet (fail)
      go_wp2
      all_goals
        go_ret
        refine ⟨ret_bool ?_, below_drewN (below_alloc _ _) _⟩
        rw [HR.out]
        clear HR HRR
        first
          | rfl
          | (try simp only [beq_eq_false_iff_ne, beq_iff_eq, ne_eq] at *
             try simp only [← List.length_eq_zero_iff] at *
             rw [Bool.eq_iff_iff]
             simp only [decide_eq_true_eq, beq_iff_eq, Bool.false_eq_true, false_iff]
             omega)
    · have hn0 : (c.n != 0) = true := by simpa using hn
      have HR : Hid (R = false) := by show _ = _; rw [← hR, if_pos hn]
      clear hR hkk hn
      go_enter Tryz.func92, Tryz.ntmps92
      go_wp2
      go_quiet (fail)
      go_wp2
      go_ret
      exact ⟨ret_bool HR.out.symm, below_drewN (below_alloc _ _) _⟩
  · rw [if_neg (by decide)] at hR
    by_cases hn : c.n = 0
    · have hn0 : (c.n != 0) = false := by simpa using hn
      have HR : Hid (R = (decide (c.vars.length = 1) && (decide (c.lits.length = 1) && decide (c.consts.length + c.rows.length = 0)))) := by show _ = _; rw [← hR, if_neg (fun h => h hn)]; simp only [show ¬ ((10 : Int) = 4) by decide, show ¬ ((10 : Int) = 5) by decide, show ¬ ((10 : Int) = 6) by decide, show ¬ ((10 : Int) = 7) by decide, show ¬ ((10 : Int) = 8) by decide, show ¬ ((10 : Int) = 9) by decide, if_true, if_false]
      clear hR hkk hn
      go_enter Tryz.func92, Tryz.ntmps92
      go_wp2
      go_quiet (fail)
      go_wp2
      all_goals
        go_ret
        refine ⟨ret_bool ?_, below_drewN (below_alloc _ _) _⟩
        rw [HR.out]
        clear HR HRR
        first
          | rfl
          | (try simp only [beq_eq_false_iff_ne, beq_iff_eq, ne_eq] at *
             try simp only [← List.length_eq_zero_iff] at *
             rw [Bool.eq_iff_iff]
             simp only [Bool.and_eq_true, decide_eq_true_eq, beq_iff_eq, Bool.false_eq_true, false_iff]
             omega)
    · have hn0 : (c.n != 0) = true := by simpa using hn
      have HR : Hid (R = false) := by show _ = _; rw [← hR, if_pos hn]
      clear hR hkk hn
      go_enter Tryz.func92, Tryz.ntmps92
      go_wp2
      go_quiet (fail)
      go_wp2
      go_ret
      exact ⟨ret_bool HR.out.symm, below_drewN (below_alloc _ _) _⟩
end Go.Proofs.YtdjbejlbmaiocagGreatDoor
/-
  WALK: the reference's check of a model: checkCon. (Made by genrcc.py.)
-/
namespace Go.Proofs.YtdjbejlbmaiocagGreatDoor
open Go.RowKit

/-- What the reference says of a constraint. -/
def rconE (vs : List MVar) (c : MCon) : Int :=
  if 1 ≤ c.kind ∧ c.kind ≤ 10 then (if manyB c then 2 else if formB c then (if varsB c vs.length then (if constsB c then firstE (c.lits.map (litE vs)) else 3) else 5) else 1) else 7
/-- Two boxes lie behind the old world. -/
structure CkS (w wr : World) (mb cb : Array Value) : Prop where
  bel : Below w.heap.size w wr
  mod : wr.heap[w.heap.size]? = some (.cells mb 25)
  con : wr.heap[w.heap.size + 1]? = some (.cells cb 73)
theorem CkS.below {w wr wr' : World} {mb cb : Array Value} (h : CkS w wr mb cb) (hb : Below wr.heap.size wr wr') : CkS w wr' mb cb :=
  ⟨h.bel.trans (hb.mono h.bel.size), (hb.block _ (Array.getElem?_eq_some_iff.1 h.mod).1).trans h.mod, (hb.block _ (Array.getElem?_eq_some_iff.1 h.con).1).trans h.con⟩
theorem isvar_two (v : Int) (n : Nat) : (decide (0 ≤ v) && decide (v ≤ (n : Int) - 1)) = isVarB v n := by
  unfold isVarB
  rw [Bool.eq_iff_iff]
  simp only [Bool.and_eq_true, decide_eq_true_eq]
  omega

set_option maxHeartbeats 4000000 in
set_option maxRecDepth 100000 in
theorem rcheckcon_any (m : Mod) (c : MCon) (a : Option Addr) (cap : Nat) (cs vv vc vr vl : Value) (w : World) (hm : m.vars.length ≤ maxLen) (hk : KArg w vv vc vr vl c) :
    Calls Tryz.prog 45 #[.agg #[.slice a m.vars.length cap, cs, .int .i64 m.goal, .int .i64 m.var], conV vv vc vr vl c] w fun e w' => e = .returned (.int .i64 (rconE m.vars c)) ∧ Below w.heap.size w w' := by
  have HK : Hid (∀ w' : World, Below w.heap.size w w' → KArg w' vv vc vr vl c) := fun w' h => KArg.below h hk
  obtain ⟨⟨a1, c1, rfl, hm1, _⟩, ⟨a2, c2, rfl, hm2, _⟩, ⟨a3, c3, rfl, hm3, _⟩, ⟨a4, c4, rfl, hm4, _⟩⟩ := hk
  obtain ⟨R, hR⟩ : ∃ R, rconE m.vars c = R := ⟨_, rfl⟩
  rw [hR]
  have HM : Hid (m.vars.length ≤ maxLen) := hm
  unfold rconE at hR
  unfold conV
  unfold maxLen at hm hm1 hm2 hm3 hm4
  have HS0 : Hid (CkS w ((w.alloc (.cells #[.slice a m.vars.length cap, cs, .int .i64 m.goal, .int .i64 m.var] 25)).alloc (.cells #[.int .i64 c.kind, .slice a1 c.vars.length c1, .slice a2 c.consts.length c2, .int .i64 c.n, .slice a3 c.rows.length c3, .slice a4 c.lits.length c4] 73)) #[.slice a m.vars.length cap, cs, .int .i64 m.goal, .int .i64 m.var] #[.int .i64 c.kind, .slice a1 c.vars.length c1, .slice a2 c.consts.length c2, .int .i64 c.n, .slice a3 c.rows.length c3, .slice a4 c.lits.length c4]) := by
    refine ⟨(below_alloc _ _).alloc (by simp) _, ((below_alloc (w.alloc (.cells #[.slice a m.vars.length cap, cs, .int .i64 m.goal, .int .i64 m.var] 25)) _).block w.heap.size (by simp)).trans (heap_alloc_new w _), ?_⟩
    have h := heap_alloc_new (w.alloc (.cells #[.slice a m.vars.length cap, cs, .int .i64 m.goal, .int .i64 m.var] 25)) (.cells #[.int .i64 c.kind, .slice a1 c.vars.length c1, .slice a2 c.consts.length c2, .int .i64 c.n, .slice a3 c.rows.length c3, .slice a4 c.lits.length c4] 73)
    rw [World.size_alloc] at h
    exact h
  obtain ⟨y, hy⟩ : ∃ y, (w.alloc (.cells #[.slice a m.vars.length cap, cs, .int .i64 m.goal, .int .i64 m.var] 25)).alloc (.cells #[.int .i64 c.kind, .slice a1 c.vars.length c1, .slice a2 c.consts.length c2, .int .i64 c.n, .slice a3 c.rows.length c3, .slice a4 c.lits.length c4] 73) = y := ⟨_, rfl⟩
  rw [hy] at HS0
  have HY : Hid ((w.alloc (.cells #[.slice a m.vars.length cap, cs, .int .i64 m.goal, .int .i64 m.var] 25)).alloc (.cells #[.int .i64 c.kind, .slice a1 c.vars.length c1, .slice a2 c.consts.length c2, .int .i64 c.n, .slice a3 c.rows.length c3, .slice a4 c.lits.length c4] 73) = y) := hy
  clear hy
  have HWR : Hid (IntKind.i64.wrap ((m.vars.length : Int) - 1) = (m.vars.length : Int) - 1) := by show _ = _; rw [IntKind.wrap_i64]; omega
  by_cases hkind : 1 ≤ c.kind ∧ c.kind ≤ 10
  · rw [if_pos hkind] at hR
    have HR : Hid (R = if manyB c then 2 else if formB c then (if varsB c m.vars.length then (if constsB c then firstE (c.lits.map (litE m.vars)) else 3) else 5) else 1) := hR.symm
    have HKI : Hid (1 ≤ c.kind ∧ c.kind ≤ 10) := hkind
    have q1 : (decide (1 ≤ c.kind) && decide (c.kind ≤ 10)) = true := by rw [Bool.and_eq_true]; simp; omega
    clear hR hkind
    go_enter Tryz.func45, Tryz.ntmps45
    go_wp2_with fail
    refine (between_any _ _ _ _).mono ?_
    rintro e wq ⟨rfl, rfl⟩
    rw [q1, HY.out]
    clear HY q1
    have k0 : y.cell? ⟨w.heap.size + 1, 0, none⟩ = some (.int .i64 c.kind) := blk9 HS0.out.con 0 _ rfl
    have k1 : y.cell? ⟨w.heap.size + 1, 1, none⟩ = some (.slice a1 c.vars.length c1) := blk9 HS0.out.con 1 _ rfl
    have k2 : y.cell? ⟨w.heap.size + 1, 2, none⟩ = some (.slice a2 c.consts.length c2) := blk9 HS0.out.con 2 _ rfl
    have k3 : y.cell? ⟨w.heap.size + 1, 3, none⟩ = some (.int .i64 c.n) := blk9 HS0.out.con 3 _ rfl
    have k4 : y.cell? ⟨w.heap.size + 1, 4, none⟩ = some (.slice a3 c.rows.length c3) := blk9 HS0.out.con 4 _ rfl
    have k5 : y.cell? ⟨w.heap.size + 1, 5, none⟩ = some (.slice a4 c.lits.length c4) := blk9 HS0.out.con 5 _ rfl
    by_cases t1 : 4 < c.vars.length
    · have HN : Hid (R = 2) := by show _ = _; rw [HR.out, if_pos (by unfold manyB; simp [t1])]
      go_wp2
      go_ret
      exact ⟨ret_int HN.out.symm, HS0.out.bel⟩
    by_cases t2 : 4 < c.lits.length
    · have HN : Hid (R = 2) := by show _ = _; rw [HR.out, if_pos (by unfold manyB; simp [t2])]
      go_wp2
      go_ret
      exact ⟨ret_int HN.out.symm, HS0.out.bel⟩
    by_cases t3 : 8 < c.consts.length
    · have HN : Hid (R = 2) := by show _ = _; rw [HR.out, if_pos (by unfold manyB; simp [t3])]
      go_wp2
      go_ret
      exact ⟨ret_int HN.out.symm, HS0.out.bel⟩
    by_cases t4 : 20 < c.rows.length
    · have HN : Hid (R = 2) := by show _ = _; rw [HR.out, if_pos (by unfold manyB; simp [t4])]
      go_wp2
      go_ret
      exact ⟨ret_int HN.out.symm, HS0.out.bel⟩
    have HR1 : Hid (R = if formB c then (if varsB c m.vars.length then (if constsB c then firstE (c.lits.map (litE m.vars)) else 3) else 5) else 1) := by show _ = _; rw [HR.out, if_neg (by unfold manyB; simp [t1, t2, t3, t4])]
    clear HR
    go_wp2_with fail
    have HKY := HK.out _ HS0.out.bel
    refine (rform_any c _ _ _ _ _ HKY HKI.out (by omega) (by omega) (by omega) (by omega)).mono ?_
    rintro e w1 ⟨rfl, hb1⟩
    have HS1 : Hid (CkS w w1 #[.slice a m.vars.length cap, cs, .int .i64 m.goal, .int .i64 m.var] #[.int .i64 c.kind, .slice a1 c.vars.length c1, .slice a2 c.consts.length c2, .int .i64 c.n, .slice a3 c.rows.length c3, .slice a4 c.lits.length c4]) := HS0.out.below hb1
    clear hb1 HS0 k0 k1 k2 k3 k4 k5 HKY HKI
    cases hf : formB c
    · have HN : Hid (R = 1) := by show _ = _; rw [HR1.out, hf]; rfl
      clear hf
      go_wp2
      go_ret
      exact ⟨ret_int HN.out.symm, HS1.out.bel⟩
    have HR2 : Hid (R = if varsB c m.vars.length then (if constsB c then firstE (c.lits.map (litE m.vars)) else 3) else 5) := by show _ = _; rw [HR1.out, hf]; rfl
    clear HR1 hf
    go_wp2_with fail
    go_loopw [5] (fun i wr => ∃ k : Nat, k ≤ c.vars.length ∧ i = .int .i64 k ∧ Hid ((c.vars.take k).all (fun v => isVarB v m.vars.length) = true) ∧ Hid (CkS w wr #[.slice a m.vars.length cap, cs, .int .i64 m.goal, .int .i64 m.var] #[.int .i64 c.kind, .slice a1 c.vars.length c1, .slice a2 c.consts.length c2, .int .i64 c.n, .slice a3 c.rows.length c3, .slice a4 c.lits.length c4])) (fun i _ => c.vars.length - (intOf i).toNat)
    case atStart => exact ⟨0, by omega, rfl, rfl, HS1⟩
    case round =>
      clear HS1
      obtain ⟨k, hkl, rfl, hall, HS⟩ := hrel
      have k1 : wr.cell? ⟨w.heap.size + 1, 1, none⟩ = some (.slice a1 c.vars.length c1) := blk9 HS.out.con 1 _ rfl
      have m0 : wr.cell? ⟨w.heap.size, 0, none⟩ = some (.slice a m.vars.length cap) := blk9 HS.out.mod 0 _ rfl
      have l0 : w.heap.size + 1 < wr.heap.size := (Array.getElem?_eq_some_iff.1 HS.out.con).1
      by_cases hlt : k < c.vars.length
      · obtain ⟨z, hz⟩ : ∃ z, c.vars[k]? = some z := ⟨c.vars[k], by simp [hlt]⟩
        obtain ⟨a9, c9, e9, _, hr⟩ := (HK.out _ HS.out.bel).1
        injection e9 with e91 _ e92
        rw [← e91] at hr
        clear e91 e92
        obtain ⟨b, off, ha, hb, hc⟩ := hr k z hz
        rw [ha] at k1
        clear ha
        have HZ : Hid (c.vars[k]? = some z) := hz
        clear hz hr
        cases hv : isVarB z m.vars.length
        · have hq : (decide (0 ≤ z) && decide (z ≤ (m.vars.length : Int) - 1)) = false := by rw [isvar_two]; exact hv
          have HN : Hid (R = 5) := by show _ = _; rw [HR2.out, if_neg (by unfold varsB; rw [all_hit _ c.vars k z HZ.out hv]; simp)]
          clear hv
          go_wp2_with fail
          go_region_law
            (first
              | (rw [if_pos (by rfl)]; go_simp; go_at_call 44; refine (between_any _ _ _ _).mono ?_; rintro e w3 ⟨rfl, hw3⟩; have hB3 : Below wr.heap.size wr w3 := (by subst hw3; exact (Below.refl _ _).drew); clear hw3; (try rw [HWR.out]); rw [hq]))
          all_goals
            go_wp2
            go_ret
            exact ⟨ret_int HN.out.symm, (HS.out.below hB3).bel⟩
        · have hq : (decide (0 ≤ z) && decide (z ≤ (m.vars.length : Int) - 1)) = true := by rw [isvar_two]; exact hv
          have HN : Hid ((c.vars.take (k + 1)).all (fun v => isVarB v m.vars.length) = true) := all_next _ c.vars k z HZ.out hall.out hv
          clear hv
          go_wp2_with fail
          go_region_law
            (first
              | (rw [if_pos (by rfl)]; go_simp; go_at_call 44; refine (between_any _ _ _ _).mono ?_; rintro e w3 ⟨rfl, hw3⟩; have hB3 : Below wr.heap.size wr w3 := (by subst hw3; exact (Below.refl _ _).drew); clear hw3; (try rw [HWR.out]); rw [hq]))
          all_goals
            have HS3 : Hid (CkS w w3 #[.slice a m.vars.length cap, cs, .int .i64 m.goal, .int .i64 m.var] #[.int .i64 c.kind, .slice a1 c.vars.length c1, .slice a2 c.consts.length c2, .int .i64 c.n, .slice a3 c.rows.length c3, .slice a4 c.lits.length c4]) := HS.out.below hB3
            clear hB3
            go_wp2
            go_roundw
            case rel => exact ⟨k + 1, by omega, by go_num, HN, HS3⟩
            case measure => simp [intOf]; omega
      have HA1 : Hid (c.vars.all (fun v => isVarB v m.vars.length) = true) := all_end _ c.vars k hlt hall.out
      clear hall
      go_wp2_with fail
      clear k1 m0 l0 hlt hkl
      obtain ⟨wa, hwa⟩ : ∃ wa, wr = wa := ⟨_, rfl⟩
      rw [hwa] at HS ⊢
      clear hwa
      go_loopw [6] (fun i wr => ∃ k : Nat, k ≤ c.lits.length ∧ i = .int .i64 k ∧ Hid ((c.lits.take k).all (fun l => isVarB l.var m.vars.length) = true) ∧ Hid (CkS w wr #[.slice a m.vars.length cap, cs, .int .i64 m.goal, .int .i64 m.var] #[.int .i64 c.kind, .slice a1 c.vars.length c1, .slice a2 c.consts.length c2, .int .i64 c.n, .slice a3 c.rows.length c3, .slice a4 c.lits.length c4])) (fun i _ => c.lits.length - (intOf i).toNat)
      case atStart => exact ⟨0, by omega, rfl, rfl, HS⟩
      case round =>
        clear HS
        obtain ⟨k, hkl, rfl, hall, HS⟩ := hrel
        have k5 : wr.cell? ⟨w.heap.size + 1, 5, none⟩ = some (.slice a4 c.lits.length c4) := blk9 HS.out.con 5 _ rfl
        have m0 : wr.cell? ⟨w.heap.size, 0, none⟩ = some (.slice a m.vars.length cap) := blk9 HS.out.mod 0 _ rfl
        have l0 : w.heap.size + 1 < wr.heap.size := (Array.getElem?_eq_some_iff.1 HS.out.con).1
        by_cases hlt : k < c.lits.length
        · obtain ⟨z, hz⟩ : ∃ z, c.lits[k]? = some z := ⟨c.lits[k], by simp [hlt]⟩
          obtain ⟨a9, c9, e9, _, hr⟩ := (HK.out _ HS.out.bel).2.2.2
          injection e9 with e91 _ e92
          rw [← e91] at hr
          clear e91 e92
          obtain ⟨b, off, ha, hb, hc0, hc1, hc2⟩ := hr k z hz
          rw [ha] at k5
          clear ha
          have HZ : Hid (c.lits[k]? = some z) := hz
          clear hz hr
          cases hv : isVarB z.var m.vars.length
          · have hq : (decide (0 ≤ z.var) && decide (z.var ≤ (m.vars.length : Int) - 1)) = false := by rw [isvar_two]; exact hv
            have HN : Hid (R = 5) := by show _ = _; rw [HR2.out, if_neg (by unfold varsB; rw [all_hit _ c.lits k z HZ.out hv]; simp)]
            clear hv
            go_wp2_with fail
            go_region_law
              (first
                | (rw [if_pos (by rfl)]; go_simp; go_at_call 44; refine (between_any _ _ _ _).mono ?_; rintro e w3 ⟨rfl, hw3⟩; have hB3 : Below wr.heap.size wr w3 := (by subst hw3; exact (Below.refl _ _).drew); clear hw3; (try rw [HWR.out]); rw [hq]))
            all_goals
              go_wp2
              go_ret
              exact ⟨ret_int HN.out.symm, (HS.out.below hB3).bel⟩
          · have hq : (decide (0 ≤ z.var) && decide (z.var ≤ (m.vars.length : Int) - 1)) = true := by rw [isvar_two]; exact hv
            have HN : Hid ((c.lits.take (k + 1)).all (fun l => isVarB l.var m.vars.length) = true) := all_next _ c.lits k z HZ.out hall.out hv
            clear hv
            go_wp2_with fail
            go_region_law
              (first
                | (rw [if_pos (by rfl)]; go_simp; go_at_call 44; refine (between_any _ _ _ _).mono ?_; rintro e w3 ⟨rfl, hw3⟩; have hB3 : Below wr.heap.size wr w3 := (by subst hw3; exact (Below.refl _ _).drew); clear hw3; (try rw [HWR.out]); rw [hq]))
            all_goals
              have HS3 : Hid (CkS w w3 #[.slice a m.vars.length cap, cs, .int .i64 m.goal, .int .i64 m.var] #[.int .i64 c.kind, .slice a1 c.vars.length c1, .slice a2 c.consts.length c2, .int .i64 c.n, .slice a3 c.rows.length c3, .slice a4 c.lits.length c4]) := HS.out.below hB3
              clear hB3
              go_wp2
              go_roundw
              case rel => exact ⟨k + 1, by omega, by go_num, HN, HS3⟩
              case measure => simp [intOf]; omega
        have HR3 : Hid (R = if constsB c then firstE (c.lits.map (litE m.vars)) else 3) := by show _ = _; rw [HR2.out, if_pos (by unfold varsB; rw [HA1.out, all_end _ c.lits k hlt hall.out]; rfl)]
        clear hall HA1 HR2
        go_wp2_with fail
        clear k5 m0 l0 hlt hkl
        obtain ⟨wb, hwb⟩ : ∃ wb, wr = wb := ⟨_, rfl⟩
        rw [hwb] at HS ⊢
        clear hwb
        go_loopw [7] (fun i wr => ∃ k : Nat, k ≤ c.consts.length ∧ i = .int .i64 k ∧ Hid ((c.consts.take k).all isConstB = true) ∧ Hid (CkS w wr #[.slice a m.vars.length cap, cs, .int .i64 m.goal, .int .i64 m.var] #[.int .i64 c.kind, .slice a1 c.vars.length c1, .slice a2 c.consts.length c2, .int .i64 c.n, .slice a3 c.rows.length c3, .slice a4 c.lits.length c4])) (fun i _ => c.consts.length - (intOf i).toNat)
        case atStart => exact ⟨0, by omega, rfl, rfl, HS⟩
        case round =>
          clear HS
          obtain ⟨k, hkl, rfl, hall, HS⟩ := hrel
          have k2 : wr.cell? ⟨w.heap.size + 1, 2, none⟩ = some (.slice a2 c.consts.length c2) := blk9 HS.out.con 2 _ rfl
          by_cases hlt : k < c.consts.length
          · obtain ⟨z, hz⟩ : ∃ z, c.consts[k]? = some z := ⟨c.consts[k], by simp [hlt]⟩
            obtain ⟨a9, c9, e9, _, hr⟩ := (HK.out _ HS.out.bel).2.1
            injection e9 with e91 _ e92
            rw [← e91] at hr
            clear e91 e92
            obtain ⟨b, off, ha, hb, hc⟩ := hr k z hz
            rw [ha] at k2
            clear ha
            have HZ : Hid (c.consts[k]? = some z) := hz
            clear hz hr
            go_wp2_with fail
            refine (inconst_any _ _).mono ?_
            rintro e wq ⟨rfl, rfl⟩
            cases hv : isConstB z
            · have HN : Hid (R = 3) := by show _ = _; rw [HR3.out, if_neg (by unfold constsB; rw [all_hit _ c.consts k z HZ.out hv]; simp)]
              go_wp2
              go_ret
              exact ⟨ret_int HN.out.symm, HS.out.bel⟩
            · have HN : Hid ((c.consts.take (k + 1)).all isConstB = true) := all_next _ c.consts k z HZ.out hall.out hv
              go_wp2
              go_roundw
              case rel => exact ⟨k + 1, by omega, by go_num, HN, HS⟩
              case measure => simp [intOf]; omega
          have HA2 : Hid (c.consts.all isConstB = true) := all_end _ c.consts k hlt hall.out
          clear hall
          have k3 : wr.cell? ⟨w.heap.size + 1, 3, none⟩ = some (.int .i64 c.n) := blk9 HS.out.con 3 _ rfl
          go_wp2_with fail
          refine (inconst_any _ _).mono ?_
          rintro e wc ⟨rfl, hwc⟩
          rw [← hwc] at HS
          clear hwc k2 k3 hlt hkl
          cases hv : isConstB c.n
          · have HN : Hid (R = 3) := by show _ = _; rw [HR3.out, if_neg (by unfold constsB; rw [hv]; simp)]
            go_wp2
            go_ret
            exact ⟨ret_int HN.out.symm, HS.out.bel⟩
          have HA3 : Hid (isConstB c.n = true) := hv
          clear hv
          go_wp2_with fail
          go_loopw [8] (fun i wr => ∃ k : Nat, k ≤ c.rows.length ∧ i = .int .i64 k ∧ Hid ((c.rows.take k).all (fun r => r.all isConstB) = true) ∧ Hid (CkS w wr #[.slice a m.vars.length cap, cs, .int .i64 m.goal, .int .i64 m.var] #[.int .i64 c.kind, .slice a1 c.vars.length c1, .slice a2 c.consts.length c2, .int .i64 c.n, .slice a3 c.rows.length c3, .slice a4 c.lits.length c4])) (fun i _ => c.rows.length - (intOf i).toNat)
          case atStart => exact ⟨0, by omega, rfl, rfl, HS⟩
          case round =>
            clear HS
            obtain ⟨k, hkl, rfl, hall, HS⟩ := hrel
            have k4 : wr.cell? ⟨w.heap.size + 1, 4, none⟩ = some (.slice a3 c.rows.length c3) := blk9 HS.out.con 4 _ rfl
            by_cases hlt : k < c.rows.length
            · obtain ⟨z, hz⟩ : ∃ z, c.rows[k]? = some z := ⟨c.rows[k], by simp [hlt]⟩
              obtain ⟨a9, c9, e9, _, hr⟩ := (HK.out _ HS.out.bel).2.2.1
              injection e9 with e91 _ e92
              rw [← e91] at hr
              clear e91 e92
              obtain ⟨b, off, x, ha, hb, hc, hx⟩ := hr k z hz
              rw [ha] at k4
              clear ha
              obtain ⟨a9, c9, rfl, hm9, hr9⟩ := hx
              have HZ : Hid (c.rows[k]? = some z) := hz
              have HV9 : Hid (∀ (i : Nat) (y : Int), z[i]? = some y → ∃ b off, a9 = some ⟨b, off, none⟩ ∧ b < wr.heap.size ∧ wr.cell? ⟨b, off + i, none⟩ = some (.int .i64 y)) := hr9
              unfold maxLen at hm9
              obtain ⟨_, hm9⟩ := hm9
              clear hz hr hr9
              go_wp2_with fail
              go_loop [9] (fun i => ∃ j : Nat, j ≤ z.length ∧ i = .int .i64 j ∧ Hid ((z.take j).all isConstB = true)) (fun i => z.length - (intOf i).toNat)
              case atStart => exact ⟨0, by omega, rfl, rfl⟩
              case round =>
                obtain ⟨j, hjl, rfl, hallj⟩ := hrel
                by_cases hltj : j < z.length
                · obtain ⟨u, hu⟩ : ∃ u, z[j]? = some u := ⟨z[j], by simp [hltj]⟩
                  obtain ⟨b2, off2, ha2, hb2, hc2⟩ := HV9.out j u hu
                  subst ha2
                  have HU : Hid (z[j]? = some u) := hu
                  clear hu
                  go_wp2_with fail
                  refine (inconst_any _ _).mono ?_
                  rintro e wq ⟨rfl, rfl⟩
                  cases hv : isConstB u
                  · have HN : Hid (R = 3) := by show _ = _; rw [HR3.out, if_neg (by unfold constsB; rw [all_hit (fun r => r.all isConstB) c.rows k z HZ.out (all_hit _ z j u HU.out hv)]; simp)]
                    go_wp2
                    go_ret
                    exact ⟨ret_int HN.out.symm, HS.out.bel⟩
                  · have HN : Hid ((z.take (j + 1)).all isConstB = true) := all_next _ z j u HU.out hallj.out hv
                    go_wp2
                    go_round
                    case rel => exact ⟨j + 1, by omega, by go_num, HN⟩
                    case measure => simp [intOf]; omega
                have HN : Hid ((c.rows.take (k + 1)).all (fun r => r.all isConstB) = true) := all_next _ c.rows k z HZ.out hall.out (all_end _ z j hltj hallj.out)
                clear hallj
                go_wp2
                go_roundw
                case rel => exact ⟨k + 1, by omega, by go_num, HN, HS⟩
                case measure => simp [intOf]; omega
            have HR4 : Hid (R = firstE (c.lits.map (litE m.vars))) := by show _ = _; rw [HR3.out, if_pos (by unfold constsB; rw [HA2.out, HA3.out, all_end _ c.rows k hlt hall.out]; rfl)]
            clear hall HA2 HA3 HR3
            go_wp2_with fail
            clear k4 hlt hkl
            obtain ⟨wd, hwd⟩ : ∃ wd, wr = wd := ⟨_, rfl⟩
            rw [hwd] at HS ⊢
            clear hwd
            go_loopw [10] (fun i wr => ∃ k : Nat, k ≤ c.lits.length ∧ i = .int .i64 k ∧ Hid (firstE ((c.lits.map (litE m.vars)).take k) = 0) ∧ Hid (CkS w wr #[.slice a m.vars.length cap, cs, .int .i64 m.goal, .int .i64 m.var] #[.int .i64 c.kind, .slice a1 c.vars.length c1, .slice a2 c.consts.length c2, .int .i64 c.n, .slice a3 c.rows.length c3, .slice a4 c.lits.length c4])) (fun i _ => c.lits.length - (intOf i).toNat)
            case atStart => exact ⟨0, by omega, rfl, rfl, HS⟩
            case round =>
              clear HS
              obtain ⟨k, hkl, rfl, hall, HS⟩ := hrel
              have k5 : wr.cell? ⟨w.heap.size + 1, 5, none⟩ = some (.slice a4 c.lits.length c4) := blk9 HS.out.con 5 _ rfl
              have m0 : wr.cell? ⟨w.heap.size, 0, none⟩ = some (.slice a m.vars.length cap) := blk9 HS.out.mod 0 _ rfl
              have m1 : wr.cell? ⟨w.heap.size, 1, none⟩ = some (cs) := blk9 HS.out.mod 1 _ rfl
              have m2 : wr.cell? ⟨w.heap.size, 2, none⟩ = some (.int .i64 m.goal) := blk9 HS.out.mod 2 _ rfl
              have m3 : wr.cell? ⟨w.heap.size, 3, none⟩ = some (.int .i64 m.var) := blk9 HS.out.mod 3 _ rfl
              have l0 : w.heap.size + 1 < wr.heap.size := (Array.getElem?_eq_some_iff.1 HS.out.con).1
              by_cases hlt : k < c.lits.length
              · obtain ⟨z, hz⟩ : ∃ z, c.lits[k]? = some z := ⟨c.lits[k], by simp [hlt]⟩
                obtain ⟨a9, c9, e9, _, hr⟩ := (HK.out _ HS.out.bel).2.2.2
                injection e9 with e91 _ e92
                rw [← e91] at hr
                clear e91 e92
                obtain ⟨b, off, ha, hb, hc0, hc1, hc2⟩ := hr k z hz
                rw [ha] at k5
                clear ha
                obtain ⟨er, her⟩ : ∃ er, litE m.vars z = er := ⟨_, rfl⟩
                have HZ : Hid ((c.lits.map (litE m.vars))[k]? = some er) := by show _ = _; rw [List.getElem?_map, hz, ← her]; rfl
                have hnv := rchecklit_any m z a cap cs wr.drew HM.out
                rw [her] at hnv
                clear hz hr her
                go_wp2_with fail
                go_region_law
                  (first
                    | (rw [if_pos (by rfl)]; go_simp; go_at_call 94; refine hnv.mono ?_; rintro e w3 ⟨rfl, hb3⟩; have hB3 : Below wr.heap.size wr w3 := (Below.refl _ _).drew.trans hb3; dsimp only))
                all_goals
                  have HS3 : Hid (CkS w w3 #[.slice a m.vars.length cap, cs, .int .i64 m.goal, .int .i64 m.var] #[.int .i64 c.kind, .slice a1 c.vars.length c1, .slice a2 c.consts.length c2, .int .i64 c.n, .slice a3 c.rows.length c3, .slice a4 c.lits.length c4]) := HS.out.below hB3
                  clear hB3 hb3 hnv
                  by_cases he : er = 0
                  · subst he
                    have HN : Hid (firstE ((c.lits.map (litE m.vars)).take (k + 1)) = 0) := firstE_step _ k hall.out HZ.out
                    go_wp2
                    go_roundw
                    case rel => exact ⟨k + 1, by omega, by go_num, HN, HS3⟩
                    case measure => simp [intOf]; omega
                  · have HN : Hid (R = er) := by show _ = _; rw [HR4.out]; exact firstE_hit _ k er hall.out HZ.out he
                    have he2 : (er != 0) = true := by simpa using he
                    clear he
                    go_wp2
                    go_ret
                    exact ⟨ret_int HN.out.symm, HS3.out.bel⟩
              have HN : Hid (R = 0) := by
                have := hall.out
                rw [List.take_of_length_le (by simp; omega)] at this
                show _ = _
                rw [HR4.out]; exact this
              go_wp2
              go_ret
              exact ⟨ret_int HN.out.symm, HS.out.bel⟩
  · rw [if_neg hkind] at hR
    have HN : Hid (R = 7) := hR.symm
    have q1 : (decide (1 ≤ c.kind) && decide (c.kind ≤ 10)) = false := by rw [Bool.and_eq_false_iff]; simp; omega
    go_enter Tryz.func45, Tryz.ntmps45
    go_wp2_with fail
    refine (between_any _ _ _ _).mono ?_
    rintro e wq ⟨rfl, rfl⟩
    rw [q1, HY.out]
    go_wp2
    go_ret
    exact ⟨ret_int HN.out.symm, HS0.out.bel⟩
end Go.Proofs.YtdjbejlbmaiocagGreatDoor
