/-
  PART 17 of what the proof leans on (RfA, TokD, TokE, TokF, TokM, RfB, RfC, RfD).
-/
import Derived.Test.YtdjbejlbmaiocagGreatDoorPartP
import Derived.Deep.CutBlock
import Derived.Deep.DeepCutAuto
/-
  WALKS: the reference's reader of tokens: Text, Wrong, Need, Here, Word.
-/
namespace Go.Proofs.YtdjbejlbmaiocagGreatDoor
open Go.RowKit

/-- What stays as it is while it reads: below N lie the tokens T; R is its block; names, by the value that leads to the variables; the rest of its model. -/
structure RC where
  N : Nat
  NB : Nat
  R : Nat
  en : Int
  T : List Tok
  nm : List ByteArray
  vv : Value
  vc : Value
  g : Int
  x : Int
/-- Names in memory, outside a block. -/
def NArg (R NB : Nat) (w : World) (v : Value) (l : List ByteArray) : Prop :=
  ∃ a c, v = .slice a l.length c ∧ (l.length ≤ c ∧ c ≤ maxLen) ∧ ∀ (i : Nat) (t : ByteArray), l[i]? = some t → ∃ b off, a = some ⟨b, off, none⟩ ∧ b ≠ R ∧ b < NB ∧ w.cell? ⟨b, off + i * 3, none⟩ = some (.string t)
abbrev XR9 (R : Nat) : Nat → Prop := fun k => k = R
theorem NArg.fr {R NB : Nat} {w w' : World} {v : Value} {l : List ByteArray} (h : NArg R NB w v l) (hn : NB ≤ w.heap.size) (hf : Fr (XR9 R) w w') : NArg R NB w' v l := by
  obtain ⟨a, c, hv, hm, hr⟩ := h
  refine ⟨a, c, hv, hm, fun i t ht => ?_⟩
  obtain ⟨b, off, ha, hb, hlt, hc⟩ := hr i t ht
  exact ⟨b, off, ha, hb, hlt, (hf.cell (p := ⟨b, off + i * 3, none⟩) (Nat.lt_of_lt_of_le hlt hn) hb).trans hc⟩
/-- The reference's reader in memory. -/
structure RSt (c : RC) (p : RP) (w : World) : Prop where
  le : c.N ≤ c.R
  Nw : c.N ≤ w.heap.size
  nb : c.NB ≤ w.heap.size
  kT : p.k ≤ c.T.length
  dg : ∀ t ∈ c.T, dig0 t.text = true → t.kind = 2
  nms : NArg c.R c.NB w c.vv c.nm
  blk : ∃ v, w.heap[c.R]? = some (.cells #[v, .int .i64 p.k, .int .i64 c.en, .int .i64 p.er, c.vv, c.vc, .int .i64 c.g, .int .i64 c.x] 99) ∧ TArg c.N w v c.T
theorem RSt.lt {c : RC} {p : RP} {w : World} (h : RSt c p w) : c.R < w.heap.size := by
  obtain ⟨v, hb, _⟩ := h.blk
  exact (Array.getElem?_eq_some_iff.1 hb).1
theorem RSt.below {c : RC} {p : RP} {w w' : World} (h : RSt c p w) (hb : Below w.heap.size w w') : RSt c p w' := by
  have hlt := h.lt
  obtain ⟨h1, h2, hn, h3, hd, h4, v, hR, hT⟩ := h
  exact ⟨h1, Nat.le_trans h2 hb.size, Nat.le_trans hn hb.size, h3, hd, h4.fr hn (Fr.below hb), v, (hb.block _ hlt).trans hR, hT.old fun q hq => hb.cell (Nat.lt_of_lt_of_le hq h2)⟩
theorem RSt.grown {c : RC} {p : RP} {w w' : World} {row : Option Nat} (h : RSt c p w) (hg : w.grownBy w' row) (hr : ∀ k, row = some k → k ≠ c.R ∧ c.N ≤ k ∧ c.NB ≤ k) : RSt c p w' := by
  have hlt := h.lt
  obtain ⟨h1, h2, hn, h3, hd, h4, v, hR, hT⟩ := h
  refine ⟨h1, Nat.le_trans h2 hg.size, Nat.le_trans hn hg.size, h3, hd, ?_, v, (hg.block c.R hlt (fun e => (hr _ e.symm).1 rfl)).trans hR, hT.old fun q hq => World.cell?_of_block (hg.block _ (by omega) (fun e => by have := (hr _ e.symm).2.1; omega))⟩
  obtain ⟨a, cc, hv, hm, hrr⟩ := h4
  refine ⟨a, cc, hv, hm, fun i t ht => ?_⟩
  obtain ⟨b, off, ha, hb, hlt, hc⟩ := hrr i t ht
  exact ⟨b, off, ha, hb, hlt, (World.cell?_of_block (hg.block _ (by show b < _; omega) (fun e => by have := (hr _ e.symm).2.2; simp only at this; omega))).trans hc⟩
theorem fr_set (R i : Nat) (w : World) (u : Value) : Fr (XR9 R) w (w.setCell ⟨R, i, none⟩ u) := Fr.setX (X := XR9 R) (Fr.refl (XR9 R) w) (p := ⟨R, i, none⟩) rfl _
theorem RSt.setAt {c : RC} {p : RP} {w : World} (h : RSt c p w) (k' : Nat) (hk : k' ≤ c.T.length) : RSt c ⟨k', p.er⟩ (w.setCell ⟨c.R, 1, none⟩ (.int .i64 (k' : Int))) := by
  obtain ⟨h1, h2, hn, h3, hd, h4, v, hb, hT⟩ := h
  refine ⟨h1, by simpa using h2, by simpa using hn, hk, hd, h4.fr hn (fr_set _ _ _ _), v, ?_, hT.old fun q hq => World.cell?_of_block (Below.heap_setCell _ _ _ _ (by simp only; omega))⟩
  rw [heap_setCell_same w c.R 1 _ _ _ hb]
  rfl
theorem RSt.setE {c : RC} {p : RP} {w : World} (h : RSt c p w) (e' : Int) : RSt c ⟨p.k, e'⟩ (w.setCell ⟨c.R, 3, none⟩ (.int .i64 e')) := by
  obtain ⟨h1, h2, hn, h3, hd, h4, v, hb, hT⟩ := h
  refine ⟨h1, by simpa using h2, by simpa using hn, h3, hd, h4.fr hn (fr_set _ _ _ _), v, ?_, hT.old fun q hq => World.cell?_of_block (Below.heap_setCell _ _ _ _ (by simp only; omega))⟩
  rw [heap_setCell_same w c.R 3 _ _ _ hb]
  rfl
theorem drew9_below {w w' : World} {n : Nat} (h : w' = w.drewN n) : Below w.heap.size w w' := by rw [h]; exact below_drewN (Below.refl _ _) _
theorem drop_head (en : Int) (T : List Tok) (k : Nat) (t : Tok) (h : T[k]? = some t) : headT en (T.drop k) = t := by
  obtain ⟨hk, rfl⟩ := List.getElem?_eq_some_iff.1 h
  rw [List.drop_eq_getElem_cons hk]; rfl
theorem drop_end (en : Int) (T : List Tok) (k : Nat) (h : T.length ≤ k) : headT en (T.drop k) = ⟨0, en, ByteArray.empty⟩ := by
  rw [List.drop_eq_nil_of_le h]; rfl

set_option maxHeartbeats 1600000 in
set_option maxRecDepth 100000 in
theorem rtext_any (c : RC) (p : RP) (w : World) (h : RSt c p w) :
    Calls Tryz.prog 58 #[.pointer (some ⟨c.R, 0, none⟩)] w fun e w' => e = .returned (.string (txR c.en c.T p)) ∧ ∃ n, w' = w.drewN n := by
  obtain ⟨N, NB, R, en, T, nm, vv, vc, g, x⟩ := c
  obtain ⟨k, er⟩ := p
  obtain ⟨h1, h2, hn, h3, hd, h4, v, hR, hT⟩ := h
  dsimp only at *
  obtain ⟨a, c, rfl, hm, ht, hr⟩ := hT
  have k0 : w.cell? ⟨R, 0, none⟩ = some (.slice a T.length c) := blk9 hR 0 _ rfl
  have k1 : w.cell? ⟨R, 1, none⟩ = some (.int .i64 (k : Int)) := blk9 hR 1 _ rfl
  have k3 : w.cell? ⟨R, 3, none⟩ = some (.int .i64 er) := blk9 hR 3 _ rfl
  unfold maxLen at hm
  clear hR hd h4
  by_cases he : er = 0
  · subst he
    by_cases hk : k < T.length
    · obtain ⟨t, htk⟩ : ∃ t, T[k]? = some t := ⟨T[k], List.getElem?_eq_getElem hk⟩
      obtain ⟨b, off, rfl, hb, c0, c1, c2⟩ := hr k t htk
      have HE : Hid (txR en T ⟨k, 0⟩ = t.text) := by
        show _ = _; unfold txR; rw [if_pos rfl, drop_head en T k t htk]
      rw [HE.out]
      have q1 : decide ((T.length : Int) ≤ (k : Int)) = false := by simp; omega
      have q2 : ¬ ((T.length : Int) ≤ (k : Int)) := by omega
      have q3 : (k : Int) < (T.length : Int) := by omega
      have q4 : decide (T.length ≤ k) = false := by simp; omega
      clear hr htk
      go_enter Tryz.func58, Tryz.ntmps58
      go_wp2
      go_quiet (fail)
      go_wp2
      go_quiet (fail)
      go_wp2
      go_ret
      exact ⟨rfl, _, drewN_drewN _ _ _⟩
    · have HE : Hid (txR en T ⟨k, 0⟩ = ByteArray.empty) := by
        show _ = _; unfold txR; rw [if_pos rfl, drop_end en T k (by omega)]
      rw [HE.out]
      have q1 : decide ((T.length : Int) ≤ (k : Int)) = true := by simp; omega
      have q2 : (T.length : Int) ≤ (k : Int) := by omega
      have q4 : decide (T.length ≤ k) = true := by simp; omega
      clear hr
      go_enter Tryz.func58, Tryz.ntmps58
      go_wp2
      go_quiet (fail)
      go_wp2
      go_ret
      exact ⟨rfl, _, rfl⟩
  · have HE : Hid (txR en T ⟨k, er⟩ = ByteArray.empty) := by show _ = _; unfold txR; rw [if_neg he]
    rw [HE.out]
    have q0 : (er != 0) = true := by simpa using he
    clear hr he
    go_enter Tryz.func58, Tryz.ntmps58
    go_wp2
    go_quiet (fail)
    go_wp2
    go_ret
    exact ⟨rfl, _, rfl⟩
set_option maxHeartbeats 1600000 in
set_option maxRecDepth 100000 in
theorem rhere_any (c : RC) (p : RP) (w : World) (h : RSt c p w) :
    Calls Tryz.prog 65 #[.pointer (some ⟨c.R, 0, none⟩)] w fun e w' => e = .returned (.int .i64 (headT c.en (c.T.drop p.k)).place) ∧ ∃ n, w' = w.drewN n := by
  obtain ⟨N, NB, R, en, T, nm, vv, vc, g, x⟩ := c
  obtain ⟨k, er⟩ := p
  obtain ⟨h1, h2, hn, h3, hd, h4, v, hR, hT⟩ := h
  dsimp only at *
  obtain ⟨a, c, rfl, hm, ht, hr⟩ := hT
  have k0 : w.cell? ⟨R, 0, none⟩ = some (.slice a T.length c) := blk9 hR 0 _ rfl
  have k1 : w.cell? ⟨R, 1, none⟩ = some (.int .i64 (k : Int)) := blk9 hR 1 _ rfl
  have k2 : w.cell? ⟨R, 2, none⟩ = some (.int .i64 en) := blk9 hR 2 _ rfl
  unfold maxLen at hm
  clear hR hd h4
  by_cases hk : k < T.length
  · obtain ⟨t, htk⟩ : ∃ t, T[k]? = some t := ⟨T[k], List.getElem?_eq_getElem hk⟩
    obtain ⟨b, off, rfl, hb, c0, c1, c2⟩ := hr k t htk
    rw [drop_head en T k t htk]
    have q3 : (k : Int) < (T.length : Int) := by omega
    have q4 : decide (k < T.length) = true := by simp; omega
    have q5 : decide ((k : Int) < (T.length : Int)) = true := by simp; omega
    clear hr htk
    go_enter Tryz.func65, Tryz.ntmps65
    go_wp2
    go_quiet (fail)
    go_wp2
    go_quiet (fail)
    go_wp2
    go_ret
    exact ⟨rfl, _, drewN_drewN _ _ _⟩
  · rw [drop_end en T k (by omega)]
    have q2 : ¬ (k : Int) < (T.length : Int) := by omega
    have q4 : decide (k < T.length) = false := by simp; omega
    have q5 : decide ((k : Int) < (T.length : Int)) = false := by simp; omega
    clear hr
    go_enter Tryz.func65, Tryz.ntmps65
    go_wp2
    go_quiet (fail)
    go_wp2
    go_ret
    exact ⟨rfl, _, rfl⟩
set_option maxHeartbeats 800000 in
set_option maxRecDepth 100000 in
theorem rwrong_any (c : RC) (p : RP) (e' : Int) (w : World) (h : RSt c p w) :
    Calls Tryz.prog 60 #[.pointer (some ⟨c.R, 0, none⟩), .int .i64 e'] w fun e w' => e = .returned (.tuple #[]) ∧ RSt c (wrongR e' p) w' ∧ Fr (XR9 c.R) w w' := by
  have HS : Hid (RSt c p w) := h
  obtain ⟨N, NB, R, en, T, nm, vv, vc, g, x⟩ := c
  obtain ⟨k, er⟩ := p
  obtain ⟨h1, h2, hn, h3, hd, h4, v, hR, hT⟩ := h
  dsimp only at *
  have k3 : w.cell? ⟨R, 3, none⟩ = some (.int .i64 er) := blk9 hR 3 _ rfl
  have z3 := frz9 hR 3
  clear hR hT hd h4
  by_cases he : er = 0
  · subst he
    have HE : Hid (RSt ⟨N, NB, R, en, T, nm, vv, vc, g, x⟩ (wrongR e' ⟨k, 0⟩) (w.setCell ⟨R, 3, none⟩ (.int .i64 e'))) := by
      have h := HS.out.setE e'
      unfold wrongR
      rw [if_pos rfl]
      exact h
    have HF : Hid (Fr (XR9 R) w (w.setCell ⟨R, 3, none⟩ (.int .i64 e'))) := fr_set _ _ _ _
    go_enter Tryz.func60, Tryz.ntmps60
    go_wp2
    go_end0
    exact ⟨rfl, HE.out, HF.out⟩
  · have HE : Hid (RSt ⟨N, NB, R, en, T, nm, vv, vc, g, x⟩ (wrongR e' ⟨k, er⟩) w) := by rw [wrong_still _ _ he]; exact HS.out
    have q0 : (er == 0) = false := by simpa using he
    clear he
    go_enter Tryz.func60, Tryz.ntmps60
    go_wp2
    go_end0
    exact ⟨rfl, HE.out, Fr.refl _ _⟩
theorem tx_here (en : Int) (T : List Tok) (p : RP) (h : (ByteArray.empty.toList == (txR en T p).toList) = false) : p.er = 0 ∧ p.k < T.length := by
  unfold txR at h
  by_cases he : p.er = 0
  · rw [if_pos he] at h
    refine ⟨he, ?_⟩
    apply Classical.byContradiction
    intro hk
    rw [drop_end en T p.k (by omega)] at h
    simp at h
  · rw [if_neg he] at h
    simp at h
theorem RSt.step {c : RC} {p : RP} {w : World} (h : RSt c p w) (hk : p.k < c.T.length) : RSt c (stepR p) (w.setCell ⟨c.R, 1, none⟩ (.int .i64 ((p.k : Int) + 1))) := by
  have := h.setAt (p.k + 1) (by omega)
  rw [Int.natCast_add] at this
  exact this
set_option maxHeartbeats 800000 in
set_option maxRecDepth 100000 in
theorem rneed_any (c : RC) (p : RP) (s : ByteArray) (hs : solid s) (w : World) (h : RSt c p w) :
    Calls Tryz.prog 59 #[.pointer (some ⟨c.R, 0, none⟩), .string s] w fun e w' => e = .returned (.tuple #[]) ∧ RSt c (needR c.en c.T s p) w' ∧ Fr (XR9 c.R) w w' := by
  have HS : Hid (RSt c p w) := h
  obtain ⟨B, hB⟩ : ∃ B, ((txR c.en c.T p).toList == s.toList) = B := ⟨_, rfl⟩
  have HBB : Hid (((txR c.en c.T p).toList == s.toList) = B) := hB
  have hk3 := h.kT
  obtain ⟨v, hR, hT⟩ := h.blk
  have hT4 : c.T.length ≤ 4000 := by obtain ⟨a, c, _, _, ht, _⟩ := hT; exact ht.1
  have k3 : w.cell? ⟨c.R, 3, none⟩ = some (.int .i64 p.er) := blk9 hR 3 _ rfl
  have k1 : w.cell? ⟨c.R, 1, none⟩ = some (.int .i64 (p.k : Int)) := blk9 hR 1 _ rfl
  have z1 := frz9 hR 1
  have hlt := h.lt
  have HSO : Hid (solid s) := hs
  clear hR hT h hs hB
  by_cases he : p.er = 0
  · have HE0 : Hid (p.er = 0) := he
    rw [he] at k3
    clear he
    go_enter Tryz.func59, Tryz.ntmps59
    go_wp2_with fail
    refine (rtext_any c p _ HS.out).mono ?_
    rintro e w1 ⟨rfl, n1, h1⟩
    have hb := drew9_below h1
    have HS1 : Hid (RSt c p w1) := HS.out.below hb
    have HF1 : Hid (Fr (XR9 c.R) w w1) := Fr.below hb
    have j1 := (hb.cell (p := ⟨c.R, 1, none⟩) hlt).trans k1
    obtain ⟨v, hR, _⟩ := HS1.out.blk
    have y1 := frz9 hR 1
    clear hR h1 hb k1 k3 z1 hlt
    cases B
    · have HN : Hid (needR c.en c.T s p = wrongR 1 p) := by show _ = _; unfold needR; rw [if_pos HE0.out, HBB.out, if_neg (by simp)]
      have hq := HBB.out
      go_wp2_with fail
      refine (rwrong_any c p 1 _ HS1.out).mono ?_
      rintro e w2 ⟨rfl, h2, hf2⟩
      have HS2 : Hid (RSt c (wrongR 1 p) w2) := h2
      have HF2 : Hid (Fr (XR9 c.R) w w2) := HF1.out.trans hf2
      clear h2 hf2 j1 y1
      go_wp2
      go_end0
      exact ⟨rfl, by rw [HN.out]; exact HS2.out, HF2.out⟩
    · have HN : Hid (needR c.en c.T s p = stepR p) := by show _ = _; unfold needR; rw [if_pos HE0.out, HBB.out, if_pos rfl]
      have hk : p.k < c.T.length := (tx_here c.en c.T p (by have h1 := HSO.out; unfold solid at h1; have h2 := HBB.out; rw [beq_iff_eq] at h2; rw [h2]; exact h1)).2
      have HS2 : Hid (RSt c (stepR p) (w1.setCell ⟨c.R, 1, none⟩ (.int .i64 ((p.k : Int) + 1)))) := HS1.out.step hk
      have HF2 : Hid (Fr (XR9 c.R) w (w1.setCell ⟨c.R, 1, none⟩ (.int .i64 ((p.k : Int) + 1)))) := HF1.out.trans (fr_set _ _ _ _)
      have hq := HBB.out
      go_wp2
      go_end0
      exact ⟨rfl, by rw [HN.out]; exact HS2.out, HF2.out⟩
  · have HN : Hid (needR c.en c.T s p = p) := need_still _ _ _ _ he
    have HW : Hid (wrongR 1 p = p) := wrong_still _ _ he
    have q0 : (p.er == 0) = false := by simpa using he
    clear he
    go_enter Tryz.func59, Tryz.ntmps59
    go_wp2_with fail
    refine (rwrong_any c p 1 _ HS.out).mono ?_
    rintro e w2 ⟨rfl, h2, hf2⟩
    have HS2 : Hid (RSt c p w2) := by rw [HW.out] at h2; exact h2
    have HF2 : Hid (Fr (XR9 c.R) w w2) := hf2
    clear h2 hf2 k1 k3 z1
    go_wp2
    go_end0
    exact ⟨rfl, by rw [HN.out]; exact HS2.out, HF2.out⟩
end Go.Proofs.YtdjbejlbmaiocagGreatDoor
/-
  WALKS: the reference's TokenAt, and what it calls.
-/
namespace Go.Proofs.YtdjbejlbmaiocagGreatDoor
open Go.RowKit

theorem ret_two {v : Value} {k : IntKind} {a b : Int} (h : a = b) : Ending.returned (.tuple #[v, .int k a]) = .returned (.tuple #[v, .int k b]) := by rw [h]

set_option maxHeartbeats 400000 in
theorem between_any (n a b : Int) (w : World) :
    Calls Tryz.prog 44 #[.int .i64 n, .int .i64 a, .int .i64 b] w fun e w' => e = .returned (.bool (decide (a ≤ n) && decide (n ≤ b))) ∧ w' = w := by
  go_enter Tryz.func44, Tryz.ntmps44
  go_wp2
  · go_ret; exact ⟨ret_bool (by simp [*]), rfl⟩
  · go_ret; exact ⟨ret_bool (by rw [decide_eq_false (p := a ≤ n) (by omega)]; rfl), rfl⟩

set_option maxHeartbeats 400000 in
theorem rletter_any (c : UInt8) (w : World) :
    Calls Tryz.prog 163 #[.int .u8 c.toNat] w fun e w' => e = .returned (.bool (isL c)) ∧ w' = w := by
  have hc : c.toNat < 256 := c.toNat_lt
  unfold isL
  go_enter Tryz.func163, Tryz.ntmps163
  go_wp2_with fail
  refine (between_any _ _ _ _).mono ?_
  rintro e w ⟨rfl, rfl⟩
  go_wp2
  go_ret
  exact ⟨ret_bool (by simp), rfl⟩
set_option maxHeartbeats 400000 in
theorem rdigit_any (c : UInt8) (w : World) :
    Calls Tryz.prog 114 #[.int .u8 c.toNat] w fun e w' => e = .returned (.bool (isD c)) ∧ w' = w := by
  have hc : c.toNat < 256 := c.toNat_lt
  unfold isD
  go_enter Tryz.func114, Tryz.ntmps114
  go_wp2_with fail
  refine (between_any _ _ _ _).mono ?_
  rintro e w ⟨rfl, rfl⟩
  go_wp2
  go_ret
  exact ⟨ret_bool (by simp), rfl⟩

set_option maxHeartbeats 800000 in
set_option maxRecDepth 100000 in
theorem at_letter (s : ByteArray) (k : Nat) (hk : k < s.size) (hs : s.size ≤ maxLen) (w : World) (hL : isL s[k] = true) :
    Calls Tryz.prog 113 #[.string s, .int .i64 k] w fun e w' => e = .returned (.tuple #[.int .i64 1, .int .i64 (runTo isW s.data.toList k - k : Nat)]) ∧ w' = w := by
  unfold maxLen at hs
  have hl : k < s.data.toList.length := by simpa using hk
  have hgo : Hid (runTo isW s.data.toList (k + 1) = runTo isW s.data.toList k) := (runTo_go isW _ k hl (by rw [list_get s k hk hl]; simp [isW, hL])).symm
  have HL : Hid (isL s[k] = true) := hL
  clear hL
  go_enter Tryz.func113, Tryz.ntmps113
  go_wp2_with fail
  refine (rletter_any _ _).mono ?_
  rintro e w ⟨rfl, rfl⟩
  rw [HL.out]
  go_wp2_with fail
  go_loop [7] (fun i => ∃ m : Nat, 1 ≤ m ∧ k + m ≤ s.size ∧ i = .int .i64 m ∧ Hid (runTo isW s.data.toList (k + m) = runTo isW s.data.toList k)) (fun i => s.size - k - (intOf i).toNat)
  case atStart => exact ⟨1, by omega, by omega, rfl, hgo⟩
  case round =>
    obtain ⟨m, hm1, hm, rfl, hr⟩ := hrel
    have hto : ((k : Int) + (m : Int)).toNat = k + m := by omega
    by_cases hlt : k + m < s.size
    · have hl2 : k + m < s.data.toList.length := by simpa using hlt
      have hget := list_get s (k + m) hlt hl2
      cases hp : isL s[k + m]
      · cases hq : isD s[k + m]
        · have HE : Hid (runTo isW s.data.toList (k + m) = k + m) := runTo_stop isW _ _ (fun h => by rw [hget]; simp [isW, hp, hq])
          have HP : Hid (isL s[k + m] = false) := hp
          have HQ : Hid (isD s[k + m] = false) := hq
          clear hp hq hget
          go_wp2_with fail
          refine (rletter_any _ _).mono ?_
          rintro e w ⟨rfl, rfl⟩
          rw [HP.out]
          go_wp2_with fail
          refine (rdigit_any _ _).mono ?_
          rintro e w ⟨rfl, rfl⟩
          rw [HQ.out]
          go_wp2
          go_ret2
          exact ⟨ret_two (by rw [← hr.out, HE.out, Nat.add_sub_cancel_left]), rfl⟩
        · have HE : Hid (runTo isW s.data.toList (k + m) = runTo isW s.data.toList (k + m + 1)) := runTo_go isW _ _ hl2 (by rw [hget]; simp [isW, hq])
          have HP : Hid (isL s[k + m] = false) := hp
          have HQ : Hid (isD s[k + m] = true) := hq
          clear hp hq hget
          go_wp2_with fail
          refine (rletter_any _ _).mono ?_
          rintro e w ⟨rfl, rfl⟩
          rw [HP.out]
          go_wp2_with fail
          refine (rdigit_any _ _).mono ?_
          rintro e w ⟨rfl, rfl⟩
          rw [HQ.out]
          go_wp2
          go_round
          case rel => exact ⟨m+1, by omega, by omega, by go_num, HE.out ▸ hr.out⟩
          case measure => simp [intOf]; omega
      · have HE : Hid (runTo isW s.data.toList (k + m) = runTo isW s.data.toList (k + m + 1)) := runTo_go isW _ _ hl2 (by rw [hget]; simp [isW, hp])
        have HP : Hid (isL s[k + m] = true) := hp
        clear hp hget
        go_wp2_with fail
        refine (rletter_any _ _).mono ?_
        rintro e w ⟨rfl, rfl⟩
        rw [HP.out]
        go_wp2
        go_round
        case rel => exact ⟨m+1, by omega, by omega, by go_num, HE.out ▸ hr.out⟩
        case measure => simp [intOf]; omega
    · have HE : Hid (runTo isW s.data.toList (k + m) = k + m) := runTo_stop isW _ _ (fun h => by simp at h; omega)
      go_wp2
      go_ret2
      exact ⟨ret_two (by rw [← hr.out, HE.out, Nat.add_sub_cancel_left]), rfl⟩

set_option maxHeartbeats 800000 in
set_option maxRecDepth 100000 in
theorem at_digit (s : ByteArray) (k : Nat) (hk : k < s.size) (hs : s.size ≤ maxLen) (w : World) (hL : isL s[k] = false) (hD : isD s[k] = true) :
    Calls Tryz.prog 113 #[.string s, .int .i64 k] w fun e w' => e = .returned (.tuple #[.int .i64 2, .int .i64 (runTo isD s.data.toList k - k : Nat)]) ∧ w' = w := by
  unfold maxLen at hs
  have hl : k < s.data.toList.length := by simpa using hk
  have hgo : Hid (runTo isD s.data.toList (k + 1) = runTo isD s.data.toList k) := (runTo_go isD _ k hl (by rw [list_get s k hk hl]; exact hD)).symm
  have HL : Hid (isL s[k] = false) := hL
  have HD : Hid (isD s[k] = true) := hD
  clear hL hD
  go_enter Tryz.func113, Tryz.ntmps113
  go_wp2_with fail
  refine (rletter_any _ _).mono ?_
  rintro e w ⟨rfl, rfl⟩
  rw [HL.out]
  go_wp2_with fail
  refine (rdigit_any _ _).mono ?_
  rintro e w ⟨rfl, rfl⟩
  rw [HD.out]
  go_wp2_with fail
  go_loop [7] (fun i => ∃ m : Nat, 1 ≤ m ∧ k + m ≤ s.size ∧ i = .int .i64 m ∧ Hid (runTo isD s.data.toList (k + m) = runTo isD s.data.toList k)) (fun i => s.size - k - (intOf i).toNat)
  case atStart => exact ⟨1, by omega, by omega, rfl, hgo⟩
  case round =>
    obtain ⟨m, hm1, hm, rfl, hr⟩ := hrel
    have hto : ((k : Int) + (m : Int)).toNat = k + m := by omega
    by_cases hlt : k + m < s.size
    · have hl2 : k + m < s.data.toList.length := by simpa using hlt
      have hget := list_get s (k + m) hlt hl2
      cases hp : isD s[k + m]
      · have HE : Hid (runTo isD s.data.toList (k + m) = k + m) := runTo_stop isD _ _ (fun h => by rw [hget]; exact hp)
        have HP : Hid (isD s[k + m] = false) := hp
        clear hp hget
        go_wp2_with fail
        refine (rdigit_any _ _).mono ?_
        rintro e w ⟨rfl, rfl⟩
        rw [HP.out]
        go_wp2
        go_ret2
        exact ⟨ret_two (by rw [← hr.out, HE.out, Nat.add_sub_cancel_left]), rfl⟩
      · have HE : Hid (runTo isD s.data.toList (k + m) = runTo isD s.data.toList (k + m + 1)) := runTo_go isD _ _ hl2 (by rw [hget]; exact hp)
        have HP : Hid (isD s[k + m] = true) := hp
        clear hp hget
        go_wp2_with fail
        refine (rdigit_any _ _).mono ?_
        rintro e w ⟨rfl, rfl⟩
        rw [HP.out]
        go_wp2
        go_round
        case rel => exact ⟨m+1, by omega, by omega, by go_num, HE.out ▸ hr.out⟩
        case measure => simp [intOf]; omega
    · have HE : Hid (runTo isD s.data.toList (k + m) = k + m) := runTo_stop isD _ _ (fun h => by simp at h; omega)
      go_wp2
      go_ret2
      exact ⟨ret_two (by rw [← hr.out, HE.out, Nat.add_sub_cancel_left]), rfl⟩

end Go.Proofs.YtdjbejlbmaiocagGreatDoor
/-
  WALKS: the reference's TokenAt at signs; TokenAt whole.
-/
namespace Go.Proofs.YtdjbejlbmaiocagGreatDoor
open Go.RowKit

theorem take2_data (s : ByteArray) (k : Nat) : (s.extract k (k + 2)).toList = (s.data.toList.drop k).take 2 := by
  rw [ByteArray.toList_eq, ByteArray.data_extract, Array.toList_extract, List.extract_eq_take_drop, Nat.add_sub_cancel_left]

set_option maxHeartbeats 800000 in
set_option maxRecDepth 100000 in
theorem at_sign2 (s : ByteArray) (k : Nat) (hk : k < s.size) (hs : s.size ≤ maxLen) (w : World) (hL : isL s[k] = false) (hD : isD s[k] = false) (h2 : sign2 (s.data.toList.drop k) = true) :
    Calls Tryz.prog 113 #[.string s, .int .i64 k] w fun e w' => e = .returned (.tuple #[.int .i64 3, .int .i64 2]) ∧ w' = w := by
  unfold maxLen at hs
  have hk2 : k + 2 ≤ s.size := by have := sign2_len _ h2; simp at this; omega
  have hx := take2_data s k
  have HL : Hid (isL s[k] = false) := hL
  have HD : Hid (isD s[k] = false) := hD
  have HX : Hid (((s.extract k (k + 2)).toList == [46, 46]) = true ∨ ((s.extract k (k + 2)).toList == [60, 61]) = true ∨ ((s.extract k (k + 2)).toList == [62, 61]) = true ∨ ((s.extract k (k + 2)).toList == [61, 61]) = true ∨ ((s.extract k (k + 2)).toList == [33, 61]) = true) := by
    rw [hx]; show _ ∨ _; simpa only [sign2, Bool.or_eq_true] using h2
  clear hL hD h2 hx
  go_enter Tryz.func113, Tryz.ntmps113
  go_wp2_with fail
  refine (rletter_any _ _).mono ?_
  rintro e w ⟨rfl, rfl⟩
  rw [HL.out]
  go_wp2_with fail
  refine (rdigit_any _ _).mono ?_
  rintro e w ⟨rfl, rfl⟩
  rw [HD.out]
  rcases HX.out with h | h | h | h | h
  all_goals
    go_wp2
    all_goals (go_ret2; exact ⟨rfl, rfl⟩)

theorem sign1_of (c : UInt8) (n : Int) (h : (n == (c.toNat : Int)) = true) (hn : n = 91 ∨ n = 93 ∨ n = 59 ∨ n = 58 ∨ n = 44 ∨ n = 45) : sign1 c = true := by
  have h' : n = (c.toNat : Int) := by simpa using h
  unfold sign1
  rw [← h']
  rcases hn with rfl | rfl | rfl | rfl | rfl | rfl <;> decide
def noSign (m : Nat) (c : UInt8) : Prop :=
  (0 < m → ((c.toNat : Int) == 91) = false) ∧ (1 < m → ((c.toNat : Int) == 93) = false) ∧ (2 < m → ((c.toNat : Int) == 59) = false) ∧ (3 < m → ((c.toNat : Int) == 58) = false) ∧ (4 < m → ((c.toNat : Int) == 44) = false) ∧ (5 < m → ((c.toNat : Int) == 45) = false)
theorem noSign0 (c : UInt8) (_h : noSign 0 c) (hq : ((c.toNat : Int) == 91) = false) : noSign 1 c := ⟨fun _ => hq, fun h' => by omega, fun h' => by omega, fun h' => by omega, fun h' => by omega, fun h' => by omega⟩
theorem noSign1 (c : UInt8) (h : noSign 1 c) (hq : ((c.toNat : Int) == 93) = false) : noSign 2 c := ⟨fun _ => h.1 (by omega), fun _ => hq, fun h' => by omega, fun h' => by omega, fun h' => by omega, fun h' => by omega⟩
theorem noSign2 (c : UInt8) (h : noSign 2 c) (hq : ((c.toNat : Int) == 59) = false) : noSign 3 c := ⟨fun _ => h.1 (by omega), fun _ => h.2.1 (by omega), fun _ => hq, fun h' => by omega, fun h' => by omega, fun h' => by omega⟩
theorem noSign3 (c : UInt8) (h : noSign 3 c) (hq : ((c.toNat : Int) == 58) = false) : noSign 4 c := ⟨fun _ => h.1 (by omega), fun _ => h.2.1 (by omega), fun _ => h.2.2.1 (by omega), fun _ => hq, fun h' => by omega, fun h' => by omega⟩
theorem noSign4 (c : UInt8) (h : noSign 4 c) (hq : ((c.toNat : Int) == 44) = false) : noSign 5 c := ⟨fun _ => h.1 (by omega), fun _ => h.2.1 (by omega), fun _ => h.2.2.1 (by omega), fun _ => h.2.2.2.1 (by omega), fun _ => hq, fun h' => by omega⟩
theorem noSign5 (c : UInt8) (h : noSign 5 c) (hq : ((c.toNat : Int) == 45) = false) : noSign 6 c := ⟨fun _ => h.1 (by omega), fun _ => h.2.1 (by omega), fun _ => h.2.2.1 (by omega), fun _ => h.2.2.2.1 (by omega), fun _ => h.2.2.2.2.1 (by omega), fun _ => hq⟩
theorem sign1_not (c : UInt8) (h : noSign 6 c) : sign1 c = false := by
  obtain ⟨g1, g2, g3, g4, g5, g6⟩ := h
  unfold sign1
  rw [g1 (by omega), g2 (by omega), g3 (by omega), g4 (by omega), g5 (by omega), g6 (by omega)]; rfl

set_option maxHeartbeats 1600000 in
set_option maxRecDepth 100000 in
theorem at_sign1 (s : ByteArray) (k : Nat) (hk : k < s.size) (hs : s.size ≤ maxLen) (w : World) (hL : isL s[k] = false) (hD : isD s[k] = false) (h2 : sign2 (s.data.toList.drop k) = false) :
    Calls Tryz.prog 113 #[.string s, .int .i64 k] w fun e w' => e = .returned (.tuple #[.int .i64 (if sign1 s[k] then 3 else 0), .int .i64 (if sign1 s[k] then 1 else 0)]) ∧ w' = w := by
  unfold maxLen at hs
  have hx := take2_data s k
  have HL : Hid (isL s[k] = false) := hL
  have HD : Hid (isD s[k] = false) := hD
  have hx5 : ((s.extract k (k + 2)).toList == [46, 46]) = false ∧ ((s.extract k (k + 2)).toList == [60, 61]) = false ∧ ((s.extract k (k + 2)).toList == [62, 61]) = false ∧ ((s.extract k (k + 2)).toList == [61, 61]) = false ∧ ((s.extract k (k + 2)).toList == [33, 61]) = false := by
    rw [hx]; simpa only [sign2, Bool.or_eq_false_iff] using h2
  obtain ⟨x1, x2, x3, x4, x5⟩ := hx5
  clear hL hD h2 hx
  obtain ⟨r1, hr1⟩ : ∃ r : Int, (if sign1 s[k] then 3 else 0) = r := ⟨_, rfl⟩
  obtain ⟨r2, hr2⟩ : ∃ r : Int, (if sign1 s[k] then 1 else 0) = r := ⟨_, rfl⟩
  have HR1 : Hid (((if sign1 s[k] then 3 else 0) : Int) = r1 ∧ ((if sign1 s[k] then 1 else 0) : Int) = r2) := ⟨hr1, hr2⟩
  rw [hr1, hr2]
  clear hr1 hr2
  go_enter Tryz.func113, Tryz.ntmps113
  go_wp2_with fail
  refine (rletter_any _ _).mono ?_
  rintro e w ⟨rfl, rfl⟩
  rw [HL.out]
  go_wp2_with fail
  refine (rdigit_any _ _).mono ?_
  rintro e w ⟨rfl, rfl⟩
  rw [HD.out]
  by_cases hk2 : k + 2 ≤ s.size
  all_goals
    go_wp2_with fail
    clear x1 x2 x3 x4 x5
    go_loop [10] (fun i => ∃ (m : Nat) (z : Int), m ≤ 6 ∧ z = m ∧ i = .int .i64 z ∧ noSign m s[k]) (fun i => 6 - (intOf i).toNat)
    case atStart => exact ⟨0, 0, by omega, rfl, rfl, by refine ⟨?_, ?_, ?_, ?_, ?_, ?_⟩ <;> (intro h; omega)⟩
    case round =>
      obtain ⟨m, z, hm, hz, rfl, hns⟩ := hrel
      rcases (show m = 0 ∨ m = 1 ∨ m = 2 ∨ m = 3 ∨ m = 4 ∨ m = 5 ∨ m = 6 by omega) with rfl | rfl | rfl | rfl | rfl | rfl | rfl
      · obtain rfl : z = 0 := by omega
        clear hz hm
        cases hq0 : ((((⟨#[91, 93, 59, 58, 44, 45]⟩ : ByteArray)[0]'(by decide)).toNat : Int) == (s[k].toNat : Int))
        · have hq : ((91 : Int) == (s[k].toNat : Int)) = false := hq0
          go_wp2
          go_round
          case rel => exact ⟨1, 1, by omega, rfl, by go_num, noSign0 _ hns (by rw [← hq]; exact BEq.comm)⟩
          case measure => simp [intOf]
        · have hq : ((91 : Int) == (s[k].toNat : Int)) = true := hq0
          have HY : Hid (r1 = 3 ∧ r2 = 1) := by rw [← HR1.out.1, ← HR1.out.2]; rw [sign1_of _ _ hq (by omega)]; exact ⟨rfl, rfl⟩
          obtain ⟨rfl, rfl⟩ := HY.out
          go_wp2
          go_ret2
          exact ⟨rfl, rfl⟩
      · obtain rfl : z = 1 := by omega
        clear hz hm
        cases hq0 : ((((⟨#[91, 93, 59, 58, 44, 45]⟩ : ByteArray)[1]'(by decide)).toNat : Int) == (s[k].toNat : Int))
        · have hq : ((93 : Int) == (s[k].toNat : Int)) = false := hq0
          go_wp2
          go_round
          case rel => exact ⟨2, 2, by omega, rfl, by go_num, noSign1 _ hns (by rw [← hq]; exact BEq.comm)⟩
          case measure => simp [intOf]
        · have hq : ((93 : Int) == (s[k].toNat : Int)) = true := hq0
          have HY : Hid (r1 = 3 ∧ r2 = 1) := by rw [← HR1.out.1, ← HR1.out.2]; rw [sign1_of _ _ hq (by omega)]; exact ⟨rfl, rfl⟩
          obtain ⟨rfl, rfl⟩ := HY.out
          go_wp2
          go_ret2
          exact ⟨rfl, rfl⟩
      · obtain rfl : z = 2 := by omega
        clear hz hm
        cases hq0 : ((((⟨#[91, 93, 59, 58, 44, 45]⟩ : ByteArray)[2]'(by decide)).toNat : Int) == (s[k].toNat : Int))
        · have hq : ((59 : Int) == (s[k].toNat : Int)) = false := hq0
          go_wp2
          go_round
          case rel => exact ⟨3, 3, by omega, rfl, by go_num, noSign2 _ hns (by rw [← hq]; exact BEq.comm)⟩
          case measure => simp [intOf]
        · have hq : ((59 : Int) == (s[k].toNat : Int)) = true := hq0
          have HY : Hid (r1 = 3 ∧ r2 = 1) := by rw [← HR1.out.1, ← HR1.out.2]; rw [sign1_of _ _ hq (by omega)]; exact ⟨rfl, rfl⟩
          obtain ⟨rfl, rfl⟩ := HY.out
          go_wp2
          go_ret2
          exact ⟨rfl, rfl⟩
      · obtain rfl : z = 3 := by omega
        clear hz hm
        cases hq0 : ((((⟨#[91, 93, 59, 58, 44, 45]⟩ : ByteArray)[3]'(by decide)).toNat : Int) == (s[k].toNat : Int))
        · have hq : ((58 : Int) == (s[k].toNat : Int)) = false := hq0
          go_wp2
          go_round
          case rel => exact ⟨4, 4, by omega, rfl, by go_num, noSign3 _ hns (by rw [← hq]; exact BEq.comm)⟩
          case measure => simp [intOf]
        · have hq : ((58 : Int) == (s[k].toNat : Int)) = true := hq0
          have HY : Hid (r1 = 3 ∧ r2 = 1) := by rw [← HR1.out.1, ← HR1.out.2]; rw [sign1_of _ _ hq (by omega)]; exact ⟨rfl, rfl⟩
          obtain ⟨rfl, rfl⟩ := HY.out
          go_wp2
          go_ret2
          exact ⟨rfl, rfl⟩
      · obtain rfl : z = 4 := by omega
        clear hz hm
        cases hq0 : ((((⟨#[91, 93, 59, 58, 44, 45]⟩ : ByteArray)[4]'(by decide)).toNat : Int) == (s[k].toNat : Int))
        · have hq : ((44 : Int) == (s[k].toNat : Int)) = false := hq0
          go_wp2
          go_round
          case rel => exact ⟨5, 5, by omega, rfl, by go_num, noSign4 _ hns (by rw [← hq]; exact BEq.comm)⟩
          case measure => simp [intOf]
        · have hq : ((44 : Int) == (s[k].toNat : Int)) = true := hq0
          have HY : Hid (r1 = 3 ∧ r2 = 1) := by rw [← HR1.out.1, ← HR1.out.2]; rw [sign1_of _ _ hq (by omega)]; exact ⟨rfl, rfl⟩
          obtain ⟨rfl, rfl⟩ := HY.out
          go_wp2
          go_ret2
          exact ⟨rfl, rfl⟩
      · obtain rfl : z = 5 := by omega
        clear hz hm
        cases hq0 : ((((⟨#[91, 93, 59, 58, 44, 45]⟩ : ByteArray)[5]'(by decide)).toNat : Int) == (s[k].toNat : Int))
        · have hq : ((45 : Int) == (s[k].toNat : Int)) = false := hq0
          go_wp2
          go_round
          case rel => exact ⟨6, 6, by omega, rfl, by go_num, noSign5 _ hns (by rw [← hq]; exact BEq.comm)⟩
          case measure => simp [intOf]
        · have hq : ((45 : Int) == (s[k].toNat : Int)) = true := hq0
          have HY : Hid (r1 = 3 ∧ r2 = 1) := by rw [← HR1.out.1, ← HR1.out.2]; rw [sign1_of _ _ hq (by omega)]; exact ⟨rfl, rfl⟩
          obtain ⟨rfl, rfl⟩ := HY.out
          go_wp2
          go_ret2
          exact ⟨rfl, rfl⟩
      · obtain rfl : z = 6 := by omega
        clear hz hm
        have HY : Hid (r1 = 0 ∧ r2 = 0) := by rw [← HR1.out.1, ← HR1.out.2]; rw [sign1_not _ hns]; exact ⟨rfl, rfl⟩
        obtain ⟨rfl, rfl⟩ := HY.out
        go_wp2
        go_ret2
        exact ⟨rfl, rfl⟩

theorem at_any (s : ByteArray) (k : Nat) (hk : k < s.size) (hs : s.size ≤ maxLen) (w : World) :
    Calls Tryz.prog 113 #[.string s, .int .i64 k] w fun e w' => e = .returned (.tuple #[.int .i64 (kindOf s.data.toList k), .int .i64 (endOf s.data.toList k - k : Nat)]) ∧ w' = w := by
  have hl : k < s.data.toList.length := by simpa using hk
  have hb : byteAt s.data.toList k = s[k] := by rw [byteAt_get _ _ hl]; exact list_get s k hk _
  have hb0 : byteAt (s.data.toList.drop k) 0 = s[k] := by rw [← hb]; unfold byteAt; simp
  cases hL : isL s[k]
  · cases hD : isD s[k]
    · cases h2 : sign2 (s.data.toList.drop k)
      · have e1 : ((kindOf s.data.toList k : Nat) : Int) = (if sign1 s[k] then 3 else 0) := by unfold kindOf signN; rw [hb, hb0, hL, hD, h2]; cases sign1 s[k] <;> rfl
        have e2 : ((endOf s.data.toList k - k : Nat) : Int) = (if sign1 s[k] then 1 else 0) := by unfold endOf signN; rw [hb, hb0, hL, hD, h2]; cases sign1 s[k] <;> simp
        rw [e1, e2]; exact at_sign1 s k hk hs w hL hD h2
      · have e1 : ((kindOf s.data.toList k : Nat) : Int) = 3 := by unfold kindOf signN; rw [hb, hL, hD, h2]; rfl
        have e2 : ((endOf s.data.toList k - k : Nat) : Int) = 2 := by unfold endOf signN; rw [hb, hL, hD, h2]; simp
        rw [e1, e2]; exact at_sign2 s k hk hs w hL hD h2
    · have e1 : ((kindOf s.data.toList k : Nat) : Int) = 2 := by unfold kindOf; rw [hb, hL, hD]; rfl
      have e2 : endOf s.data.toList k = runTo isD s.data.toList k := by unfold endOf; rw [hb, hL, hD]; rfl
      rw [e1, e2]; exact at_digit s k hk hs w hL hD
  · have e1 : ((kindOf s.data.toList k : Nat) : Int) = 1 := by unfold kindOf; rw [hb, hL]; rfl
    have e2 : endOf s.data.toList k = runTo isW s.data.toList k := by unfold endOf; rw [hb, hL]; rfl
    rw [e1, e2]; exact at_letter s k hk hs w hL
end Go.Proofs.YtdjbejlbmaiocagGreatDoor
/-
  WALK: the reference's ScanOf: it answers what 'scanOf' says.
-/
namespace Go.Proofs.YtdjbejlbmaiocagGreatDoor
open Go.RowKit

set_option maxHeartbeats 1600000 in
set_option maxRecDepth 100000 in
theorem rscan_any (s : ByteArray) (hs : s.size ≤ 4000) (w : World) :
    Calls Tryz.prog 57 #[.string s] w fun e w' => ∃ v, e = .returned (.tuple #[v, .int .i64 (scanOf s).2.1, .int .i64 (scanOf s).2.2]) ∧
      w'.ownsRow w.heap.size 158 3 v (scanOf s).1.length (toksCells (scanOf s).1) ∧ Below w.heap.size w w' := by
  have HS : Hid (s.size ≤ maxLen) := by show s.size ≤ maxLen; unfold maxLen; omega
  obtain ⟨i0, hi, hz0, hz1, hz2⟩ := info_parts Tryz.infoTok
  obtain ⟨R, hR⟩ : ∃ R, R = scanOf s := ⟨_, rfl⟩
  rw [← hR]
  have HR : Hid (R = scanF (s.size + 1) s 0 []) := by rw [hR]; unfold scanOf; rw [if_neg (by omega)]; rfl
  clear hR
  go_enter Tryz.func57, Tryz.ntmps57
  go_wp2_with fail
  go_loopw [5, 6, 7] (fun v b i wr => ∃ (k f j : Nat) (note : Bool) (acc : List Tok), b = .bool note ∧ i = .int .i64 j ∧ Hid (skipTo note s.data.toList j = skipTo false s.data.toList k) ∧ Hid (R = scanF f s k acc) ∧ s.size < k + f ∧ k ≤ s.size ∧ j ≤ s.size ∧ k ≤ j ∧ acc.length ≤ k ∧
      wr.ownsRow w.heap.size 158 3 v acc.length (toksCells acc) ∧ Below w.heap.size w wr) (fun _ _ i _ => s.size - (intOf i).toNat)
  case atStart => exact ⟨0, s.size + 1, 0, false, [], rfl, rfl, rfl, HR, by omega, by omega, by omega, by omega, Nat.le_refl _, World.ownsRow_nil _ _ _ _, Below.refl _ _⟩
  case round =>
    obtain ⟨k, f, j, note, acc, rfl, rfl, hj, hR, hf, hk, hjs, hkj, hacc, hown, hbw⟩ := hrel
    by_cases hlt : j < s.size
    · have hl : j < s.data.toList.length := by simpa using hlt
      have hget := list_get s j hlt hl
      have HG : Hid (s.data.toList[j] = s[j]) := hget
      clear hget
      cases note
      · cases h4 : ((s[j].toNat : Int) == 37)
        · cases hb : isB s[j]
          · have h1 : ((s[j].toNat : Int) == 32) = false := by unfold isB at hb; simp only [Bool.or_eq_false_iff] at hb; exact hb.1
            have h2 : ((s[j].toNat : Int) == 9) = false := by unfold isB at hb; simp only [Bool.or_eq_false_iff] at hb; exact hb.2.1
            have h3 : ((s[j].toNat : Int) == 10) = false := by unfold isB at hb; simp only [Bool.or_eq_false_iff] at hb; exact hb.2.2
            have HJ : Hid (skipTo false s.data.toList k = j) := by rw [← hj.out]; exact skipTo_stop _ j hl (by rw [HG.out]; exact hb) (by rw [HG.out]; exact h4)
            clear hb hj
            obtain ⟨f, rfl⟩ : ∃ f', f = f' + 1 := ⟨f - 1, by omega⟩
            have hle := endOf_le _ j hl
            have hle1 : endOf s.data.toList j ≤ s.size := by simpa using hle.2
            obtain ⟨n, hn⟩ : ∃ n, endOf s.data.toList j = j + n := ⟨endOf s.data.toList j - j, by omega⟩
            have HN : Hid (((endOf s.data.toList j - j : Nat) : Int) = (n : Int)) := by show ((endOf s.data.toList j - j : Nat) : Int) = (n : Int); rw [hn, Nat.add_sub_cancel_left]
            have HN' : Hid (endOf s.data.toList j = j + n) := hn
            have hnj : j + n ≤ s.size := by omega
            have hpos : kindOf s.data.toList j ≠ 0 → 0 < n := fun h => by have := endOf_gt _ j hl h; omega
            clear hle hn hle1
            rcases kind_cases s.data.toList j with hkd | hkd | hkd | hkd
            · have HR2 : Hid (R = ([], j, 1)) := by
                rw [hR.out]
                have ht : tokAt s j = ⟨0, 0, ByteArray.empty⟩ := by unfold tokAt; rw [if_pos hkd]
                have he : errOf (tokAt s j).kind (tokAt s j).text = 1 := by rw [ht]; rfl
                rw [← he]; exact scanF_err f s k j acc HJ.out hlt (by rw [he]; decide)
              have HK : Hid (((kindOf s.data.toList j : Nat) : Int) = 0) := by rw [hkd]; rfl
              clear hkd hpos
              go_wp2_with fail
              refine (at_any s j hlt HS.out _).mono ?_
              rintro e wr ⟨rfl, rfl⟩
              rw [HK.out, HN.out]
              go_wp2
              go_ret3
              rw [HR2.out]
              exact ⟨_, rfl, World.ownsRow_nil _ _ _ _, hbw⟩
            · have hn0 : 0 < n := hpos (by omega)
              clear hpos
              by_cases h12 : 12 < n
              · have HR2 : Hid (R = ([], j, 2)) := by
                  rw [hR.out]
                  have ht := tokAt_some s j n 1 hkd (by omega) HN'.out
                  have he : errOf (tokAt s j).kind (tokAt s j).text = 2 := by rw [ht]; exact err1_long _ (by rw [size_extract _ _ _ hnj]; omega)
                  rw [← he]; exact scanF_err f s k j acc HJ.out hlt (by rw [he]; decide)
                have HK : Hid (((kindOf s.data.toList j : Nat) : Int) = 1) := by rw [hkd]; rfl
                clear hkd
                go_wp2_with fail
                refine (at_any s j hlt HS.out _).mono ?_
                rintro e wr ⟨rfl, rfl⟩
                rw [HK.out, HN.out]
                go_wp2
                go_ret3
                rw [HR2.out]
                exact ⟨_, rfl, World.ownsRow_nil _ _ _ _, hbw⟩
              · have ht := tokAt_some s j n 1 hkd (by omega) HN'.out
                have he : errOf (tokAt s j).kind (tokAt s j).text = 0 := by rw [ht]; exact err1_ok _ (by rw [size_extract _ _ _ hnj]; omega)
                have HR2 : Hid (R = scanF f s (j + n) (acc ++ [⟨1, j, s.extract j (j + n)⟩])) := by
                  rw [hR.out, scanF_next f s k j acc HJ.out hlt he, HN'.out, ht]; rfl
                have HK : Hid (((kindOf s.data.toList j : Nat) : Int) = 1) := by rw [hkd]; rfl
                clear hkd ht he
                go_wp2_with fail
                refine (at_any s j hlt HS.out _).mono ?_
                rintro e wr ⟨rfl, rfl⟩
                rw [HK.out, HN.out]
                go_wp2_with (at_builtin; refine wpList_append_own _ rfl _ _ 95 rfl w.heap.size 158 i0 (.agg #[.int .i64 0, .int .i64 0, .string ByteArray.empty]) 3 32 Tryz.underlying95 hi hz0 hz1 hz2 rfl (by decide) _ _ _ rfl (hown.alloc _) ⟨wr.heap.size, 0, none⟩ 1 1 (tokCells ⟨1, j, s.extract j (j + n)⟩) rfl rfl ?c1 ?c2 ?c3 ?c4 ?c5 ?_)
                case c1 => first | exact laid_cells wr ⟨1, j, s.extract j (j + n)⟩ | exact fun _ _ h => h
                case c2 => exact tok_oneCell _
                case c3 => unfold maxLen; omega
                case c4 => omega
                case c5 => have := hbw.size; simp; omega
                intro v3 w3 hown3 hgrow _
                have hb3 : Below w.heap.size w w3 := (hbw.alloc (by have := hbw.size; omega) _).grown hgrow (by have := hbw.size; simp; omega) (fun b h => (hown.lt _ h).1)
                have hown4 : w3.ownsRow w.heap.size 158 3 v3 (acc ++ ([⟨1, j, s.extract j (j + n)⟩] : List Tok)).length (toksCells (acc ++ [⟨1, j, s.extract j (j + n)⟩])) := by
                  rw [toksCells_snoc, List.length_append]; exact hown3
                clear hown3 hgrow hown hbw
                go_wp2
                go_roundw
                case rel => exact ⟨j + n, f, j + n, false, _, rfl, by go_num, rfl, HR2, by omega, hnj, hnj, Nat.le_refl _, by simp; omega, hown4, hb3⟩
                case measure => simp [intOf]; omega
            · have hn0 : 0 < n := hpos (by omega)
              clear hpos
              by_cases h4n : 4 < n
              · have HR2 : Hid (R = ([], j, 2)) := by
                  rw [hR.out]
                  have ht := tokAt_some s j n 2 hkd (by omega) HN'.out
                  have he : errOf (tokAt s j).kind (tokAt s j).text = 2 := by rw [ht]; exact err2_long _ (by rw [size_extract _ _ _ hnj]; omega)
                  rw [← he]; exact scanF_err f s k j acc HJ.out hlt (by rw [he]; decide)
                have HK : Hid (((kindOf s.data.toList j : Nat) : Int) = 2) := by rw [hkd]; rfl
                clear hkd
                go_wp2_with fail
                refine (at_any s j hlt HS.out _).mono ?_
                rintro e wr ⟨rfl, rfl⟩
                rw [HK.out, HN.out]
                go_wp2
                go_ret3
                rw [HR2.out]
                exact ⟨_, rfl, World.ownsRow_nil _ _ _ _, hbw⟩
              · by_cases h1n : 1 < n
                · have hx0 : 0 < (s.extract j (j + n)).size := by rw [size_extract _ _ _ hnj]; omega
                  have hbx : byteAt (s.extract j (j + n)).data.toList 0 = (s.extract j (j + n))[0] := by rw [byteAt_get _ _ (show 0 < (s.extract j (j + n)).data.toList.length by rw [Array.length_toList]; exact hx0)]; exact list_get _ 0 hx0 _
                  cases h0x : (((s.extract j (j + n))[0].toNat : Int) == 48)
                  · have ht := tokAt_some s j n 2 hkd (by omega) HN'.out
                    have he : errOf (tokAt s j).kind (tokAt s j).text = 0 := by rw [ht]; exact err2_ok _ (by rw [size_extract _ _ _ hnj]; omega) (fun h => by rw [hbx]; simpa using h0x)
                    have HR2 : Hid (R = scanF f s (j + n) (acc ++ [⟨2, j, s.extract j (j + n)⟩])) := by
                      rw [hR.out, scanF_next f s k j acc HJ.out hlt he, HN'.out, ht]; rfl
                    have HK : Hid (((kindOf s.data.toList j : Nat) : Int) = 2) := by rw [hkd]; rfl
                    clear hkd ht he hbx
                    go_wp2_with fail
                    refine (at_any s j hlt HS.out _).mono ?_
                    rintro e wr ⟨rfl, rfl⟩
                    rw [HK.out, HN.out]
                    go_wp2_with (at_builtin; refine wpList_append_own _ rfl _ _ 95 rfl w.heap.size 158 i0 (.agg #[.int .i64 0, .int .i64 0, .string ByteArray.empty]) 3 32 Tryz.underlying95 hi hz0 hz1 hz2 rfl (by decide) _ _ _ rfl (hown.alloc _) ⟨wr.heap.size, 0, none⟩ 1 1 (tokCells ⟨2, j, s.extract j (j + n)⟩) rfl rfl ?c1 ?c2 ?c3 ?c4 ?c5 ?_)
                    case c1 => first | exact laid_cells wr ⟨2, j, s.extract j (j + n)⟩ | exact fun _ _ h => h
                    case c2 => exact tok_oneCell _
                    case c3 => unfold maxLen; omega
                    case c4 => omega
                    case c5 => have := hbw.size; simp; omega
                    intro v3 w3 hown3 hgrow _
                    have hb3 : Below w.heap.size w w3 := (hbw.alloc (by have := hbw.size; omega) _).grown hgrow (by have := hbw.size; simp; omega) (fun b h => (hown.lt _ h).1)
                    have hown4 : w3.ownsRow w.heap.size 158 3 v3 (acc ++ ([⟨2, j, s.extract j (j + n)⟩] : List Tok)).length (toksCells (acc ++ [⟨2, j, s.extract j (j + n)⟩])) := by
                      rw [toksCells_snoc, List.length_append]; exact hown3
                    clear hown3 hgrow hown hbw
                    go_wp2
                    go_roundw
                    case rel => exact ⟨j + n, f, j + n, false, _, rfl, by go_num, rfl, HR2, by omega, hnj, hnj, Nat.le_refl _, by simp; omega, hown4, hb3⟩
                    case measure => simp [intOf]; omega
                  · have HR2 : Hid (R = ([], j, 1)) := by
                      rw [hR.out]
                      have ht := tokAt_some s j n 2 hkd (by omega) HN'.out
                      have he : errOf (tokAt s j).kind (tokAt s j).text = 1 := by rw [ht]; exact err2_nought _ (by rw [size_extract _ _ _ hnj]; omega) (by rw [size_extract _ _ _ hnj]; omega) (by rw [hbx]; simpa using h0x)
                      rw [← he]; exact scanF_err f s k j acc HJ.out hlt (by rw [he]; decide)
                    have HK : Hid (((kindOf s.data.toList j : Nat) : Int) = 2) := by rw [hkd]; rfl
                    clear hkd hbx
                    go_wp2_with fail
                    refine (at_any s j hlt HS.out _).mono ?_
                    rintro e wr ⟨rfl, rfl⟩
                    rw [HK.out, HN.out]
                    go_wp2
                    go_ret3
                    rw [HR2.out]
                    exact ⟨_, rfl, World.ownsRow_nil _ _ _ _, hbw⟩
                · have ht := tokAt_some s j n 2 hkd (by omega) HN'.out
                  have he : errOf (tokAt s j).kind (tokAt s j).text = 0 := by rw [ht]; exact err2_ok _ (by rw [size_extract _ _ _ hnj]; omega) (fun h => by rw [size_extract _ _ _ hnj] at h; omega)
                  have HR2 : Hid (R = scanF f s (j + n) (acc ++ [⟨2, j, s.extract j (j + n)⟩])) := by
                    rw [hR.out, scanF_next f s k j acc HJ.out hlt he, HN'.out, ht]; rfl
                  have HK : Hid (((kindOf s.data.toList j : Nat) : Int) = 2) := by rw [hkd]; rfl
                  clear hkd ht he
                  go_wp2_with fail
                  refine (at_any s j hlt HS.out _).mono ?_
                  rintro e wr ⟨rfl, rfl⟩
                  rw [HK.out, HN.out]
                  go_wp2_with (at_builtin; refine wpList_append_own _ rfl _ _ 95 rfl w.heap.size 158 i0 (.agg #[.int .i64 0, .int .i64 0, .string ByteArray.empty]) 3 32 Tryz.underlying95 hi hz0 hz1 hz2 rfl (by decide) _ _ _ rfl (hown.alloc _) ⟨wr.heap.size, 0, none⟩ 1 1 (tokCells ⟨2, j, s.extract j (j + n)⟩) rfl rfl ?c1 ?c2 ?c3 ?c4 ?c5 ?_)
                  case c1 => first | exact laid_cells wr ⟨2, j, s.extract j (j + n)⟩ | exact fun _ _ h => h
                  case c2 => exact tok_oneCell _
                  case c3 => unfold maxLen; omega
                  case c4 => omega
                  case c5 => have := hbw.size; simp; omega
                  intro v3 w3 hown3 hgrow _
                  have hb3 : Below w.heap.size w w3 := (hbw.alloc (by have := hbw.size; omega) _).grown hgrow (by have := hbw.size; simp; omega) (fun b h => (hown.lt _ h).1)
                  have hown4 : w3.ownsRow w.heap.size 158 3 v3 (acc ++ ([⟨2, j, s.extract j (j + n)⟩] : List Tok)).length (toksCells (acc ++ [⟨2, j, s.extract j (j + n)⟩])) := by
                    rw [toksCells_snoc, List.length_append]; exact hown3
                  clear hown3 hgrow hown hbw
                  go_wp2
                  go_roundw
                  case rel => exact ⟨j + n, f, j + n, false, _, rfl, by go_num, rfl, HR2, by omega, hnj, hnj, Nat.le_refl _, by simp; omega, hown4, hb3⟩
                  case measure => simp [intOf]; omega
            · have hn0 : 0 < n := hpos (by omega)
              clear hpos
              have ht := tokAt_some s j n 3 hkd (by omega) HN'.out
              have he : errOf (tokAt s j).kind (tokAt s j).text = 0 := by rw [ht]; exact err3_ok _
              have HR2 : Hid (R = scanF f s (j + n) (acc ++ [⟨3, j, s.extract j (j + n)⟩])) := by
                rw [hR.out, scanF_next f s k j acc HJ.out hlt he, HN'.out, ht]; rfl
              have HK : Hid (((kindOf s.data.toList j : Nat) : Int) = 3) := by rw [hkd]; rfl
              clear hkd ht he
              go_wp2_with fail
              refine (at_any s j hlt HS.out _).mono ?_
              rintro e wr ⟨rfl, rfl⟩
              rw [HK.out, HN.out]
              go_wp2_with (at_builtin; refine wpList_append_own _ rfl _ _ 95 rfl w.heap.size 158 i0 (.agg #[.int .i64 0, .int .i64 0, .string ByteArray.empty]) 3 32 Tryz.underlying95 hi hz0 hz1 hz2 rfl (by decide) _ _ _ rfl (hown.alloc _) ⟨wr.heap.size, 0, none⟩ 1 1 (tokCells ⟨3, j, s.extract j (j + n)⟩) rfl rfl ?c1 ?c2 ?c3 ?c4 ?c5 ?_)
              case c1 => first | exact laid_cells wr ⟨3, j, s.extract j (j + n)⟩ | exact fun _ _ h => h
              case c2 => exact tok_oneCell _
              case c3 => unfold maxLen; omega
              case c4 => omega
              case c5 => have := hbw.size; simp; omega
              intro v3 w3 hown3 hgrow _
              have hb3 : Below w.heap.size w w3 := (hbw.alloc (by have := hbw.size; omega) _).grown hgrow (by have := hbw.size; simp; omega) (fun b h => (hown.lt _ h).1)
              have hown4 : w3.ownsRow w.heap.size 158 3 v3 (acc ++ ([⟨3, j, s.extract j (j + n)⟩] : List Tok)).length (toksCells (acc ++ [⟨3, j, s.extract j (j + n)⟩])) := by
                rw [toksCells_snoc, List.length_append]; exact hown3
              clear hown3 hgrow hown hbw
              go_wp2
              go_roundw
              case rel => exact ⟨j + n, f, j + n, false, _, rfl, by go_num, rfl, HR2, by omega, hnj, hnj, Nat.le_refl _, by simp; omega, hown4, hb3⟩
              case measure => simp [intOf]; omega
          · have HE : Hid (skipTo false s.data.toList (j + 1) = skipTo false s.data.toList k) := by rw [← hj.out]; exact (skipTo_blank _ j hl (by rw [HG.out]; exact hb)).symm
            simp only [isB, Bool.or_eq_true] at hb
            rcases hb with hb | hb | hb
            all_goals
              go_wp2
            all_goals
              go_roundw
              case rel => exact ⟨k, f, j + 1, false, acc, rfl, by go_num, HE, hR, hf, hk, by omega, by omega, hacc, hown, hbw⟩
              case measure => simp [intOf]; omega
        · have HE : Hid (skipTo (notNl s[j]) s.data.toList (j + 1) = skipTo false s.data.toList k) := by rw [← hj.out, ← HG.out]; exact (skipTo_note _ _ j hl (by rw [HG.out, h4]; rfl)).symm
          go_wp2
          go_roundw
          case rel => exact ⟨k, f, j + 1, notNl s[j], acc, rfl, by go_num, HE, hR, hf, hk, by omega, by omega, hacc, hown, hbw⟩
          case measure => simp [intOf]; omega
      · have HE : Hid (skipTo (notNl s[j]) s.data.toList (j + 1) = skipTo false s.data.toList k) := by rw [← hj.out, ← HG.out]; exact (skipTo_note _ _ j hl rfl).symm
        go_wp2
        go_roundw
        case rel => exact ⟨k, f, j + 1, notNl s[j], acc, rfl, by go_num, HE, hR, hf, hk, by omega, by omega, hacc, hown, hbw⟩
        case measure => simp [intOf]; omega
    · have HR2 : Hid (R = (acc, 0, 0)) := by rw [hR.out]; exact scanF_end f s k acc (by rw [← hj.out, skipTo_end _ _ _ (by simpa using hlt)]; exact hlt)
      go_wp2
      go_ret3
      rw [HR2.out]
      exact ⟨_, rfl, hown, hbw⟩
end Go.Proofs.YtdjbejlbmaiocagGreatDoor
/-
  WALK: the reference's IsToken.
-/
namespace Go.Proofs.YtdjbejlbmaiocagGreatDoor
open Go.RowKit

set_option maxHeartbeats 1600000 in
set_option maxRecDepth 100000 in
theorem istok_any (kind : Int) (s : ByteArray) (hs : s.size ≤ maxLen) (w : World) :
    Calls Tryz.prog 90 #[.int .i64 kind, .string s] w fun e w' => e = .returned (.bool (isTok kind s)) ∧ w' = w := by
  have HS : Hid (s.size ≤ maxLen) := hs
  unfold maxLen at hs
  by_cases h0 : 0 < s.size
  · have hem : s.toList.isEmpty = false := by
      rw [ByteArray.toList_eq]; cases h : s.data.toList with
      | nil => have := len_size s; rw [h] at this; simp at this; omega
      | cons a r => rfl
    have hne : ¬ s.toList = [] := by intro h; rw [h] at hem; cases hem
    by_cases h4 : s.size ≤ 4000
    · by_cases hk : kind = 0
      · have hA : isTok kind s = false := by unfold isTok; simp [hk]
        rw [hA]; subst hk
        go_enter Tryz.func90, Tryz.ntmps90
        go_wp2
        all_goals (go_ret; exact ⟨ret_bool (by first | rfl | (simp; done) | (simp; omega)), rfl⟩)
      · have hk0 : (kind == 0) = false := by simpa using hk
        have hl : 0 < s.data.toList.length := by rw [len_size]; exact h0
        have hend := (endOf_le _ 0 hl).2
        rw [len_size] at hend
        have hbx : byteAt s.data.toList 0 = s[0] := by rw [byteAt_get _ _ hl]; exact list_get s 0 h0 hl
        obtain ⟨K, hK⟩ : ∃ K, kindOf s.data.toList 0 = K := ⟨_, rfl⟩
        obtain ⟨N, hN⟩ : ∃ N, endOf s.data.toList 0 = N := ⟨_, rfl⟩
        have hkc := kind_cases s.data.toList 0
        rw [hK] at hkc
        rw [hN] at hend
        have hT : isTok kind s = (decide ((K : Int) = kind) && (decide (N = s.size) && decide (errOf kind s = 0))) := by
          unfold isTok; rw [hK, hN]; simp [h0, h4, hk]
        rw [hT]; clear hT
        have HKK : Hid (((kindOf s.data.toList 0 : Nat) : Int) = (K : Int)) := congrArg Nat.cast hK
        have HNN : Hid (((endOf s.data.toList 0 - 0 : Nat) : Int) = (N : Int)) := congrArg Nat.cast hN
        clear hK hN
        by_cases hkk : (K : Int) = kind
        · subst hkk
          by_cases hnn : N = s.size
          · subst hnn
            rcases hkc with rfl | rfl | rfl | rfl
            · exact absurd rfl hk
            · by_cases h12 : 12 < s.size
              · rw [show errOf ((1 : Nat) : Int) s = 2 from err1_long s h12]
                clear hbx hk hk0
                go_enter Tryz.func90, Tryz.ntmps90
                go_wp2_with fail
                refine (at_any s 0 h0 HS.out _).mono ?_
                rintro e w ⟨rfl, rfl⟩
                rw [HKK.out, HNN.out]
                go_wp2
                all_goals (go_ret; exact ⟨ret_bool (by first | rfl | (simp; done) | (simp; omega)), rfl⟩)
              · rw [show errOf ((1 : Nat) : Int) s = 0 from err1_ok s h12]
                clear hbx hk hk0
                go_enter Tryz.func90, Tryz.ntmps90
                go_wp2_with fail
                refine (at_any s 0 h0 HS.out _).mono ?_
                rintro e w ⟨rfl, rfl⟩
                rw [HKK.out, HNN.out]
                go_wp2
                all_goals (go_ret; exact ⟨ret_bool (by first | rfl | (simp; done) | (simp; omega)), rfl⟩)
            · by_cases h5 : 4 < s.size
              · rw [show errOf ((2 : Nat) : Int) s = 2 from err2_long s h5]
                clear hbx hk hk0
                go_enter Tryz.func90, Tryz.ntmps90
                go_wp2_with fail
                refine (at_any s 0 h0 HS.out _).mono ?_
                rintro e w ⟨rfl, rfl⟩
                rw [HKK.out, HNN.out]
                go_wp2
                all_goals (go_ret; exact ⟨ret_bool (by first | rfl | (simp; done) | (simp; omega)), rfl⟩)
              · by_cases h1 : 1 < s.size
                · cases hc : ((s[0].toNat : Int) == 48)
                  · rw [show errOf ((2 : Nat) : Int) s = 0 from err2_ok s h5 (fun _ => by rw [hbx]; simpa using hc)]
                    clear hbx hk hk0
                    go_enter Tryz.func90, Tryz.ntmps90
                    go_wp2_with fail
                    refine (at_any s 0 h0 HS.out _).mono ?_
                    rintro e w ⟨rfl, rfl⟩
                    rw [HKK.out, HNN.out]
                    go_wp2
                    all_goals (go_ret; exact ⟨ret_bool (by first | rfl | (simp; done) | (simp; omega)), rfl⟩)
                  · rw [show errOf ((2 : Nat) : Int) s = 1 from err2_nought s h5 h1 (by rw [hbx]; simpa using hc)]
                    clear hbx hk hk0
                    go_enter Tryz.func90, Tryz.ntmps90
                    go_wp2_with fail
                    refine (at_any s 0 h0 HS.out _).mono ?_
                    rintro e w ⟨rfl, rfl⟩
                    rw [HKK.out, HNN.out]
                    go_wp2
                    all_goals (go_ret; exact ⟨ret_bool (by first | rfl | (simp; done) | (simp; omega)), rfl⟩)
                · rw [show errOf ((2 : Nat) : Int) s = 0 from err2_ok s h5 (fun h => absurd h h1)]
                  clear hbx hk hk0
                  go_enter Tryz.func90, Tryz.ntmps90
                  go_wp2_with fail
                  refine (at_any s 0 h0 HS.out _).mono ?_
                  rintro e w ⟨rfl, rfl⟩
                  rw [HKK.out, HNN.out]
                  go_wp2
                  all_goals (go_ret; exact ⟨ret_bool (by first | rfl | (simp; done) | (simp; omega)), rfl⟩)
            · rw [show errOf ((3 : Nat) : Int) s = 0 from err3_ok s]
              clear hbx hk hk0
              go_enter Tryz.func90, Tryz.ntmps90
              go_wp2_with fail
              refine (at_any s 0 h0 HS.out _).mono ?_
              rintro e w ⟨rfl, rfl⟩
              rw [HKK.out, HNN.out]
              go_wp2
              all_goals (go_ret; exact ⟨ret_bool (by first | rfl | (simp; done) | (simp; omega)), rfl⟩)
          · have hnf : ((N : Int) == (s.size : Int)) = false := by simpa using (show ¬ (N : Int) = (s.size : Int) by omega)
            rw [decide_eq_false hnn]
            clear hbx
            go_enter Tryz.func90, Tryz.ntmps90
            go_wp2_with fail
            refine (at_any s 0 h0 HS.out _).mono ?_
            rintro e w ⟨rfl, rfl⟩
            rw [HKK.out, HNN.out]
            go_wp2
            all_goals (go_ret; exact ⟨ret_bool (by first | rfl | (simp; done) | (simp; omega)), rfl⟩)
        · have hkf : ((K : Int) == kind) = false := by simpa using hkk
          rw [decide_eq_false hkk]
          clear hbx
          go_enter Tryz.func90, Tryz.ntmps90
          go_wp2_with fail
          refine (at_any s 0 h0 HS.out _).mono ?_
          rintro e w ⟨rfl, rfl⟩
          rw [HKK.out, HNN.out]
          go_wp2
          all_goals (go_ret; exact ⟨ret_bool (by first | rfl | (simp; done) | (simp; omega)), rfl⟩)
    · have hA : isTok kind s = false := by unfold isTok; simp [h4]
      rw [hA]
      go_enter Tryz.func90, Tryz.ntmps90
      go_wp2
      all_goals (go_ret; exact ⟨ret_bool (by first | rfl | (simp; done) | (simp; omega)), rfl⟩)
  · have hA : isTok kind s = false := by unfold isTok; simp [h0]
    have hem : s.toList = [] := by
      rw [ByteArray.toList_eq]; apply List.eq_nil_of_length_eq_zero; rw [len_size]; omega
    rw [hA]
    go_enter Tryz.func90, Tryz.ntmps90
    go_wp2
    all_goals (go_ret; exact ⟨ret_bool (by first | rfl | (simp; done) | (simp; omega)), rfl⟩)
end Go.Proofs.YtdjbejlbmaiocagGreatDoor
/-
  WALKS: the reference's IsWord, IsName; its reader's Word.
-/
namespace Go.Proofs.YtdjbejlbmaiocagGreatDoor
open Go.RowKit

def words16 : List ByteArray := [⟨#[118, 97, 114]⟩, ⟨#[99, 111, 110]⟩, ⟨#[115, 111, 108, 118, 101]⟩, ⟨#[108, 101]⟩, ⟨#[101, 113]⟩, ⟨#[110, 101]⟩, ⟨#[100, 105, 102, 102, 101, 114]⟩, ⟨#[101, 108, 101, 109, 101, 110, 116]⟩, ⟨#[116, 97, 98, 108, 101]⟩, ⟨#[116, 105, 109, 101, 115]⟩, ⟨#[109, 97, 120]⟩, ⟨#[99, 108, 97, 117, 115, 101]⟩, ⟨#[105, 102, 102]⟩, ⟨#[97, 110, 121]⟩, ⟨#[108, 101, 97, 115, 116]⟩, ⟨#[109, 111, 115, 116]⟩]
theorem strs9 (w : World) (l : List ByteArray) (B : Nat) (hB : B = w.heap.size) (hl : l.length ≤ 100) : SArg (w.alloc (.cells (l.map Value.string).toArray 9)) (.slice (some ⟨B, 0, none⟩) l.length l.length) l := by
  subst hB
  refine ⟨_, l.length, rfl, ⟨Nat.le_refl _, by unfold maxLen; omega⟩, fun i z hz => ⟨_, 0, rfl, by simp, ?_⟩⟩
  rw [World.cell?_alloc_at _ _ _ (0 + i) (by simp)]
  simp [hz]
theorem any_next9 (f : ByteArray → Bool) (l : List ByteArray) (m : Nat) (s : ByteArray) (hs : l[m]? = some s) (h : (l.take m).any f = false) (hf : f s = false) : (l.take (m + 1)).any f = false := by
  rw [List.take_add_one, hs, List.any_append, h]
  show (false || (f s || false)) = false
  rw [hf]; rfl
theorem any_hit9 (f : ByteArray → Bool) (l : List ByteArray) (m : Nat) (s : ByteArray) (hs : l[m]? = some s) (hf : f s = true) : l.any f = true :=
  List.any_eq_true.2 ⟨s, List.mem_of_getElem? hs, hf⟩
theorem words_any (s : ByteArray) : words16.any (fun z => z.toList == s.toList) = isWordB s := by
  have h : ∀ z : ByteArray, (z.toList == s.toList) = (s.toList == z.toList) := fun z => Bool.eq_iff_iff.2 ⟨fun h => beq_iff_eq.2 (beq_iff_eq.1 h).symm, fun h => beq_iff_eq.2 (beq_iff_eq.1 h).symm⟩
  simp only [h]
  unfold words16 isWordB
  simp only [List.any_cons, List.any_nil, Bool.or_false, ByteArray.toList_eq]
set_option maxHeartbeats 1600000 in
set_option maxRecDepth 100000 in
theorem isword_any (s : ByteArray) (w : World) :
    Calls Tryz.prog 91 #[.string s] w fun e w' => e = .returned (.bool (isWordB s)) ∧ Below w.heap.size w w' := by
  obtain ⟨R, hR⟩ : ∃ R, isWordB s = R := ⟨_, rfl⟩
  have HR : Hid (words16.any (fun z => z.toList == s.toList) = R) := (words_any s).trans hR
  rw [hR]
  clear hR
  have HB : Hid (Below w.heap.size w (w.alloc (.cells (words16.map Value.string).toArray 9))) := below_alloc _ _
  have HV : Hid (SArg (w.alloc (.cells (words16.map Value.string).toArray 9)) (.slice (some ⟨w.heap.size, 0, none⟩) 16 16) words16) := strs9 w words16 _ rfl (by decide)
  have HL : Hid (words16.length = 16) := rfl
  obtain ⟨W, hW⟩ : ∃ W, w.alloc (.cells (words16.map Value.string).toArray 9) = W := ⟨_, rfl⟩
  have HW : Hid (w.alloc (.cells (words16.map Value.string).toArray 9) = W) := hW
  rw [hW] at HB HV
  clear hW
  go_enter Tryz.func91, Tryz.ntmps91
  go_wp2_with fail
  rw [show w.alloc (.cells #[.string ⟨#[118, 97, 114]⟩, .string ⟨#[99, 111, 110]⟩, .string ⟨#[115, 111, 108, 118, 101]⟩, .string ⟨#[108, 101]⟩, .string ⟨#[101, 113]⟩, .string ⟨#[110, 101]⟩, .string ⟨#[100, 105, 102, 102, 101, 114]⟩, .string ⟨#[101, 108, 101, 109, 101, 110, 116]⟩, .string ⟨#[116, 97, 98, 108, 101]⟩, .string ⟨#[116, 105, 109, 101, 115]⟩, .string ⟨#[109, 97, 120]⟩, .string ⟨#[99, 108, 97, 117, 115, 101]⟩, .string ⟨#[105, 102, 102]⟩, .string ⟨#[97, 110, 121]⟩, .string ⟨#[108, 101, 97, 115, 116]⟩, .string ⟨#[109, 111, 115, 116]⟩] 9) = W from HW.out]
  go_loopw [4] (fun i wr => ∃ m : Nat, m ≤ 16 ∧ i = .int .i64 m ∧ Hid ((words16.take m).any (fun z => z.toList == s.toList) = false) ∧ wr = W) (fun i _ => 16 - (intOf i).toNat)
  case atStart => exact ⟨0, by omega, rfl, rfl, rfl⟩
  case round =>
    obtain ⟨m, hm, rfl, hno, rfl⟩ := hrel
    by_cases hlt : m < 16
    · obtain ⟨z, hz⟩ : ∃ z, words16[m]? = some z := ⟨_, List.getElem?_eq_getElem (by rw [HL.out]; exact hlt)⟩
      obtain ⟨a, c, hva, _, hr⟩ := HV.out
      obtain ⟨b, off, ha, hb, hc⟩ := hr m z hz
      cases hva
      cases ha
      rw [Nat.zero_add] at hc
      clear hr
      cases hq : (z.toList == s.toList)
      · have HN : Hid ((words16.take (m + 1)).any (fun z => z.toList == s.toList) = false) := any_next9 _ _ m z hz hno.out hq
        clear hz
        go_wp2
        go_roundw
        case rel => exact ⟨m + 1, by omega, by go_num, HN, by first | rfl | trivial⟩
        case measure => simp [intOf]; omega
      · have HN : Hid (R = true) := HR.out.symm.trans (any_hit9 _ _ m z hz hq)
        clear hz
        go_wp2
        go_ret
        exact ⟨ret_bool HN.out.symm, HB.out⟩
    · obtain rfl : m = 16 := by omega
      have HN : Hid (R = false) := HR.out.symm.trans hno.out
      go_wp2
      go_ret
      exact ⟨ret_bool HN.out.symm, HB.out⟩
set_option maxHeartbeats 800000 in
set_option maxRecDepth 100000 in
theorem isname_any (s : ByteArray) (hs : s.size ≤ maxLen) (w : World) :
    Calls Tryz.prog 43 #[.string s] w fun e w' => e = .returned (.bool (isNameB s)) ∧ Below w.heap.size w w' := by
  have HS : Hid (s.size ≤ maxLen) := hs
  obtain ⟨A, hA⟩ : ∃ A, isTok 1 s = A := ⟨_, rfl⟩
  obtain ⟨C, hC⟩ : ∃ C, isWordB s = C := ⟨_, rfl⟩
  have HC : Hid (isWordB s = C) := hC
  have HA : Hid (isTok 1 s = A) := hA
  unfold isNameB
  rw [hA, hC]
  clear hA hC hs
  go_enter Tryz.func43, Tryz.ntmps43
  go_wp2_with fail
  refine (istok_any 1 s HS.out _).mono ?_
  rintro e w ⟨rfl, rfl⟩
  rw [HA.out]
  cases A
  · go_wp2
    go_ret
    exact ⟨rfl, Below.refl _ _⟩
  · go_wp2_with fail
    refine (isword_any s _).mono ?_
    rintro e w1 ⟨rfl, hb⟩
    rw [HC.out]
    go_wp2
    go_ret
    exact ⟨ret_bool (by simp), hb⟩

theorem word_hit (en : Int) (T : List Tok) (p : RP) (ws : List ByteArray) (m : Nat) (s : ByteArray) (hs : ws[m]? = some s) (he : p.er = 0) (h : ((txR en T p).toList == s.toList) = true) : wordR en T p (ws.drop m) m = ((m : Int), stepR p) := by
  obtain ⟨hm, rfl⟩ := List.getElem?_eq_some_iff.1 hs
  rw [List.drop_eq_getElem_cons hm, wordR, if_pos ⟨he, h⟩]
theorem word_miss (en : Int) (T : List Tok) (p : RP) (ws : List ByteArray) (m : Nat) (s : ByteArray) (hs : ws[m]? = some s) (h : ¬ (p.er = 0 ∧ ((txR en T p).toList == s.toList) = true)) : wordR en T p (ws.drop m) m = wordR en T p (ws.drop (m + 1)) (m + 1) := by
  obtain ⟨hm, rfl⟩ := List.getElem?_eq_some_iff.1 hs
  rw [List.drop_eq_getElem_cons hm, wordR, if_neg h]
theorem word_end (en : Int) (T : List Tok) (p : RP) (ws : List ByteArray) (m : Nat) (hm : ws.length ≤ m) : wordR en T p (ws.drop m) m = (0, wrongR 1 p) := by
  rw [List.drop_eq_nil_of_le hm, wordR]
set_option maxHeartbeats 1600000 in
set_option maxRecDepth 100000 in
theorem rword_any (c : RC) (p : RP) (ws : List ByteArray) (hs : ∀ s ∈ ws, solid s) (v : Value) (w : World) (h : RSt c p w) (hv : SArg w v ws) :
    Calls Tryz.prog 63 #[.pointer (some ⟨c.R, 0, none⟩), v] w fun e w' => e = .returned (.int .i64 (wordR c.en c.T p ws 0).1) ∧ RSt c (wordR c.en c.T p ws 0).2 w' ∧ Fr (XR9 c.R) w w' := by
  have HS : Hid (RSt c p w) := h
  have HSO : Hid (∀ s ∈ ws, solid s) := hs
  obtain ⟨Q, hQ⟩ : ∃ Q, wordR c.en c.T p ws 0 = Q := ⟨_, rfl⟩
  have HQ : Hid (wordR c.en c.T p (ws.drop 0) 0 = Q) := by rw [List.drop_zero]; exact hQ
  rw [hQ]
  obtain ⟨X, hX⟩ : ∃ X, txR c.en c.T p = X := ⟨_, rfl⟩
  have HX : Hid (txR c.en c.T p = X) := hX
  have HCT : Hid (∀ p' q : Nat, Calls Tryz.prog 58 #[.pointer (some ⟨c.R, 0, none⟩)] (w.drewN (p' + q)) fun e w' => e = .returned (.string X) ∧ ∃ n, w' = w.drewN (p' + n)) := by
    intro p' q
    refine (rtext_any c p _ (HS.out.below (drew9_below rfl))).mono ?_
    rintro e w' ⟨rfl, n, rfl⟩
    rw [hX]
    exact ⟨rfl, q + n, by rw [drewN_drewN, Nat.add_assoc]⟩
  have hk3 := h.kT
  obtain ⟨v', hR, hT⟩ := h.blk
  have hT4 : c.T.length ≤ 4000 := by obtain ⟨a, c, _, _, ht, _⟩ := hT; exact ht.1
  have k3 : w.cell? ⟨c.R, 3, none⟩ = some (.int .i64 p.er) := blk9 hR 3 _ rfl
  have k1 : w.cell? ⟨c.R, 1, none⟩ = some (.int .i64 (p.k : Int)) := blk9 hR 1 _ rfl
  have z1 := frz9 hR 1
  have hlt := h.lt
  obtain ⟨a, cc, rfl, hm, hr⟩ := hv
  have HV : Hid (∀ (i : Nat) (z : ByteArray), ws[i]? = some z → ∃ b off, a = some ⟨b, off, none⟩ ∧ b < w.heap.size ∧ w.cell? ⟨b, off + i, none⟩ = some (.string z)) := hr
  unfold maxLen at hm
  obtain ⟨hm1, hm⟩ := hm
  clear hR hT h hs hQ hX hr
  go_enter Tryz.func63, Tryz.ntmps63
  go_wp2_with fail
  go_loopw [5] (fun i wr => ∃ m : Nat, m ≤ ws.length ∧ i = .int .i64 m ∧ Hid (wordR c.en c.T p (ws.drop m) m = Q) ∧ ∃ n, wr = w.drewN n) (fun i _ => ws.length - (intOf i).toNat)
  case atStart => exact ⟨0, by omega, rfl, HQ, 0, rfl⟩
  case round =>
    obtain ⟨m, hml, rfl, hno, nq, rfl⟩ := hrel
    have HS1 : Hid (RSt c p (w.drewN nq)) := HS.out.below (drew9_below rfl)
    have HF1 : Hid (Fr (XR9 c.R) w (w.drewN nq)) := Fr.below (drew9_below rfl)
    by_cases hlt2 : m < ws.length
    · obtain ⟨z, hz⟩ : ∃ z, ws[m]? = some z := ⟨_, List.getElem?_eq_getElem hlt2⟩
      obtain ⟨b, off, rfl, hb, hc⟩ := HV.out m z hz
      by_cases he : p.er = 0
      · cases hq : (X.toList == z.toList)
        · have HN : Hid (wordR c.en c.T p (ws.drop (m + 1)) (m + 1) = Q) := (word_miss c.en c.T p ws m z hz (by rw [HX.out, hq]; simp)).symm.trans hno.out
          rw [he] at k3
          clear hz he
          go_wp2
          go_quiet ((go_at_call 58; exact HCT.out _ _))
          go_wp2
          go_roundw
          case rel => exact ⟨m + 1, by omega, by go_num, HN, _, rfl⟩
          case measure => simp [intOf]; omega
        · have HN : Hid (Q = ((m : Int), stepR p)) := hno.out.symm.trans (word_hit c.en c.T p ws m z hz he (by rw [HX.out]; exact hq))
          have hk : p.k < c.T.length := (tx_here c.en c.T p (by have h1 := HSO.out z (List.mem_of_getElem? hz); unfold solid at h1; rw [HX.out, beq_iff_eq.1 hq]; exact h1)).2
          have HS2 : Hid (∀ n, RSt c (stepR p) ((w.drewN n).setCell ⟨c.R, 1, none⟩ (.int .i64 ((p.k : Int) + 1)))) := fun n => (HS.out.below (drew9_below rfl)).step hk
          have HF2 : Hid (∀ n, Fr (XR9 c.R) w ((w.drewN n).setCell ⟨c.R, 1, none⟩ (.int .i64 ((p.k : Int) + 1)))) := fun n => (Fr.below (drew9_below rfl)).trans (fr_set _ _ _ _)
          rw [he] at k3
          clear hz he
          go_wp2
          go_quiet ((go_at_call 58; exact HCT.out _ _))
          go_wp2
          go_ret
          exact ⟨by rw [HN.out]; rfl, by rw [HN.out]; exact HS2.out _, HF2.out _⟩
      · have HN : Hid (wordR c.en c.T p (ws.drop (m + 1)) (m + 1) = Q) := (word_miss c.en c.T p ws m z hz (fun hq => he hq.1)).symm.trans hno.out
        have q0 : (p.er == 0) = false := by simpa using he
        clear hz he
        go_wp2
        go_quiet (fail)
        go_wp2
        go_roundw
        case rel => exact ⟨m + 1, by omega, by go_num, HN, _, rfl⟩
        case measure => simp [intOf]; omega
    · have HN : Hid (Q = (0, wrongR 1 p)) := hno.out.symm.trans (word_end c.en c.T p ws m (by omega))
      go_wp2_with fail
      refine (rwrong_any c p 1 _ HS1.out).mono ?_
      rintro e w2 ⟨rfl, h2, hf2⟩
      have HS2 : Hid (RSt c (wrongR 1 p) w2) := h2
      have HF2 : Hid (Fr (XR9 c.R) w w2) := HF1.out.trans hf2
      clear h2 hf2 k1 k3 z1
      go_wp2
      go_ret
      exact ⟨by rw [HN.out]; rfl, by rw [HN.out]; exact HS2.out, HF2.out⟩
end Go.Proofs.YtdjbejlbmaiocagGreatDoor
/-
  WALKS: the reference's reader: V, More.
-/
namespace Go.Proofs.YtdjbejlbmaiocagGreatDoor
open Go.RowKit

theorem tx_nothing (en : Int) (T : List Tok) (p : RP) (h : ¬ (p.er = 0 ∧ p.k < T.length)) : txR en T p = ByteArray.empty := by
  unfold txR
  by_cases he : p.er = 0
  · rw [if_pos he, drop_end en T p.k (by omega)]
  · rw [if_neg he]
theorem tx_name (en : Int) (T : List Tok) (p : RP) (h : isNameB (txR en T p) = true) : p.er = 0 ∧ p.k < T.length := by
  apply Classical.byContradiction
  intro hn
  rw [tx_nothing en T p hn, namex_empty] at h
  cases h
theorem RSt.size {c : RC} {p : RP} {w : World} (h : RSt c p w) : (txR c.en c.T p).size ≤ 4000 := by
  by_cases hn : p.er = 0 ∧ p.k < c.T.length
  · unfold txR
    rw [if_pos hn.1]
    obtain ⟨v, _, a, c', _, _, ht, _⟩ := h.blk
    have e : c.T[p.k]? = some c.T[p.k] := List.getElem?_eq_getElem hn.2
    rw [drop_head c.en c.T p.k _ e]
    exact (ht.2 _ (List.mem_of_getElem? e)).1
  · rw [tx_nothing _ _ _ hn]
    show 0 ≤ 4000
    omega
theorem vat_hit (s : ByteArray) (p : RP) (nm : List ByteArray) (m : Nat) (n : ByteArray) (hn : nm[m]? = some n) (h : (n.toList == s.toList) = true) : vAtR s p (nm.drop m) m = ((m : Int), stepR p) := by
  obtain ⟨hm, rfl⟩ := List.getElem?_eq_some_iff.1 hn
  rw [List.drop_eq_getElem_cons hm, vAtR, if_pos h]
theorem vat_miss (s : ByteArray) (p : RP) (nm : List ByteArray) (m : Nat) (n : ByteArray) (hn : nm[m]? = some n) (h : (n.toList == s.toList) = false) : vAtR s p (nm.drop m) m = vAtR s p (nm.drop (m + 1)) (m + 1) := by
  obtain ⟨hm, rfl⟩ := List.getElem?_eq_some_iff.1 hn
  rw [List.drop_eq_getElem_cons hm, vAtR, if_neg (by rw [h]; simp)]
theorem vat_end (s : ByteArray) (p : RP) (nm : List ByteArray) (m : Nat) (hm : nm.length ≤ m) : vAtR s p (nm.drop m) m = (0, wrongR 5 p) := by
  rw [List.drop_eq_nil_of_le hm, vAtR]
set_option maxHeartbeats 1600000 in
set_option maxRecDepth 100000 in
theorem rv_any (c : RC) (p : RP) (w : World) (h : RSt c p w) :
    Calls Tryz.prog 64 #[.pointer (some ⟨c.R, 0, none⟩)] w fun e w' => e = .returned (.int .i64 (vR c.en c.T c.nm p).1) ∧ RSt c (vR c.en c.T c.nm p).2 w' ∧ Fr (XR9 c.R) w w' := by
  have HS : Hid (RSt c p w) := h
  have HSZ : Hid ((txR c.en c.T p).size ≤ maxLen) := Nat.le_trans h.size (by unfold maxLen; omega)
  have HTN : Hid (isNameB (txR c.en c.T p) = true → p.er = 0 ∧ p.k < c.T.length) := tx_name c.en c.T p
  obtain ⟨X, hX⟩ : ∃ X, txR c.en c.T p = X := ⟨_, rfl⟩
  have HX : Hid (txR c.en c.T p = X) := hX
  obtain ⟨Q, hQ⟩ : ∃ Q, vR c.en c.T c.nm p = Q := ⟨_, rfl⟩
  rw [hQ]
  have HVR : Hid (Q = if isNameB X then vAtR X p c.nm 0 else (0, wrongR 1 p)) := by show _ = _; rw [← hQ]; unfold vR; rw [hX]
  clear hQ
  rw [hX] at HSZ HTN
  have hT4 : c.T.length ≤ 4000 := by obtain ⟨v, _, a, c, _, _, ht, _⟩ := h.blk; exact ht.1
  have hk3 := h.kT
  clear hX h
  go_enter Tryz.func64, Tryz.ntmps64
  go_wp2_with fail
  refine (rtext_any c p _ HS.out).mono ?_
  rintro e w1 ⟨rfl, n1, h1⟩
  rw [HX.out]
  have HB1 : Hid (Below w.heap.size w w1) := drew9_below h1
  clear h1
  go_wp2_with fail
  refine (isname_any X HSZ.out _).mono ?_
  rintro e w2 ⟨rfl, h2⟩
  have HB2 : Hid (Below w.heap.size w w2) := HB1.out.trans (h2.mono HB1.out.size)
  have HS2 : Hid (RSt c p w2) := HS.out.below HB2.out
  have HF2 : Hid (Fr (XR9 c.R) w w2) := Fr.below HB2.out
  clear h2
  cases hq : isNameB X
  · have HN : Hid (Q = (0, wrongR 1 p)) := by show _ = _; rw [HVR.out, hq]; rfl
    go_wp2_with fail
    refine (rwrong_any c p 1 _ HS2.out).mono ?_
    rintro e w3 ⟨rfl, h3, hf3⟩
    have HS3 : Hid (RSt c (wrongR 1 p) w3) := h3
    have HF3 : Hid (Fr (XR9 c.R) w w3) := HF2.out.trans hf3
    clear h3 hf3
    go_wp2
    go_ret
    exact ⟨by rw [HN.out]; rfl, by rw [HN.out]; exact HS3.out, HF3.out⟩
  · have HQ : Hid (vAtR X p (c.nm.drop 0) 0 = Q) := by show _ = _; rw [HVR.out, hq, List.drop_zero]; rfl
    obtain ⟨he, hk⟩ := HTN.out hq
    have HS4 : Hid (RSt c (stepR p) (w2.setCell ⟨c.R, 1, none⟩ (.int .i64 ((p.k : Int) + 1)))) := HS2.out.step hk
    have HF4 : Hid (Fr (XR9 c.R) w (w2.setCell ⟨c.R, 1, none⟩ (.int .i64 ((p.k : Int) + 1)))) := HF2.out.trans (fr_set _ _ _ _)
    obtain ⟨v, hR, _⟩ := HS2.out.blk
    obtain ⟨a, cc, hvv, hm, hr⟩ := HS2.out.nms
    rw [hvv] at hR
    have k1 : w2.cell? ⟨c.R, 1, none⟩ = some (.int .i64 (p.k : Int)) := blk9 hR 1 _ rfl
    have k4 : w2.cell? ⟨c.R, 4, none⟩ = some (.slice a c.nm.length cc) := blk9 hR 4 _ rfl
    have z1 := frz9 hR 1
    have HV : Hid (∀ (i : Nat) (t : ByteArray), c.nm[i]? = some t → ∃ b off, a = some ⟨b, off, none⟩ ∧ b ≠ c.R ∧ b < c.NB ∧ w2.cell? ⟨b, off + i * 3, none⟩ = some (.string t)) := hr
    unfold maxLen at hm
    obtain ⟨hm1, hm⟩ := hm
    clear hR hr hvv he
    go_wp2_with fail
    go_loopw [4] (fun i wr => ∃ m : Nat, m ≤ c.nm.length ∧ i = .int .i64 m ∧ Hid (vAtR X p (c.nm.drop m) m = Q) ∧ wr = w2) (fun i _ => c.nm.length - (intOf i).toNat)
    case atStart => exact ⟨0, by omega, rfl, HQ, rfl⟩
    case round =>
      obtain ⟨m, hml, rfl, hno, rfl⟩ := hrel
      by_cases hlt2 : m < c.nm.length
      · obtain ⟨z, hz⟩ : ∃ z, c.nm[m]? = some z := ⟨_, List.getElem?_eq_getElem hlt2⟩
        obtain ⟨b, off, rfl, _, hb, hc⟩ := HV.out m z hz
        cases hq2 : (z.toList == X.toList)
        · have HN2 : Hid (vAtR X p (c.nm.drop (m + 1)) (m + 1) = Q) := (vat_miss X p c.nm m z hz hq2).symm.trans hno.out
          clear hz
          go_wp2
          go_roundw
          case rel => exact ⟨m + 1, by omega, by go_num, HN2, by first | rfl | trivial⟩
          case measure => simp [intOf]; omega
        · have HN2 : Hid (Q = ((m : Int), stepR p)) := hno.out.symm.trans (vat_hit X p c.nm m z hz hq2)
          clear hz
          go_wp2
          go_ret
          exact ⟨by rw [HN2.out]; rfl, by rw [HN2.out]; exact HS4.out, HF4.out⟩
      · have HN2 : Hid (Q = (0, wrongR 5 p)) := hno.out.symm.trans (vat_end X p c.nm m (by omega))
        go_wp2_with fail
        refine (rwrong_any c p 5 _ HS2.out).mono ?_
        rintro e w3 ⟨rfl, h3, hf3⟩
        have HS3 : Hid (RSt c (wrongR 5 p) w3) := h3
        have HF3 : Hid (Fr (XR9 c.R) w w3) := HF2.out.trans hf3
        clear h3 hf3 k1 k4 z1
        go_wp2
        go_ret
        exact ⟨by rw [HN2.out]; rfl, by rw [HN2.out]; exact HS3.out, HF3.out⟩

theorem solid1 (b : UInt8) : solid ⟨#[b]⟩ := by
  unfold solid
  rw [ByteArray.toList_eq, ByteArray.toList_eq]
  rfl
set_option maxHeartbeats 1600000 in
set_option maxRecDepth 100000 in
theorem rmore1_any (c : RC) (p : RP) (w : World) (h : RSt c p w) :
    Calls Tryz.prog 117 #[.pointer (some ⟨c.R, 0, none⟩), .bool true] w fun e w' => e = .returned (.bool (more1R c.en c.T p).1) ∧ RSt c (more1R c.en c.T p).2 w' ∧ Fr (XR9 c.R) w w' := by
  have HS : Hid (RSt c p w) := h
  obtain ⟨Q, hQ⟩ : ∃ Q, more1R c.en c.T p = Q := ⟨_, rfl⟩
  rw [hQ]
  obtain ⟨p1, hp1⟩ : ∃ p1, needR c.en c.T ⟨#[91]⟩ p = p1 := ⟨_, rfl⟩
  have HP1 : Hid (needR c.en c.T ⟨#[91]⟩ p = p1) := hp1
  have HQ : Hid (Q = if ((txR c.en c.T p1).toList == [93]) = true then (false, needR c.en c.T ⟨#[93]⟩ p1) else (decide (p1.er = 0), p1)) := by
    show _ = _; rw [← hQ]; unfold more1R; rw [hp1]
  clear h hQ hp1
  go_enter Tryz.func117, Tryz.ntmps117
  go_wp2_with fail
  refine (rneed_any c p ⟨#[91]⟩ (solid1 _) _ HS.out).mono ?_
  rintro e w1 ⟨rfl, h1, hf1⟩
  rw [HP1.out] at h1
  have HS1 : Hid (RSt c p1 w1) := h1
  have HF1 : Hid (Fr (XR9 c.R) w w1) := hf1
  clear h1 hf1
  go_wp2_with fail
  refine (rtext_any c p1 _ HS1.out).mono ?_
  rintro e w2 ⟨rfl, n2, h2⟩
  have HB2 : Hid (Below w1.heap.size w1 w2) := drew9_below h2
  have HS2 : Hid (RSt c p1 w2) := HS1.out.below HB2.out
  have HF2 : Hid (Fr (XR9 c.R) w w2) := HF1.out.trans (Fr.below HB2.out)
  clear h2
  obtain ⟨X, hX⟩ : ∃ X, txR c.en c.T p1 = X := ⟨_, rfl⟩
  rw [hX] at HQ ⊢
  clear hX
  cases hq : (X.toList == [93])
  · have HN : Hid (Q = (decide (p1.er = 0), p1)) := by show _ = _; rw [HQ.out, hq]; rfl
    obtain ⟨v, hR, _⟩ := HS2.out.blk
    have k3 : w2.cell? ⟨c.R, 3, none⟩ = some (.int .i64 p1.er) := blk9 hR 3 _ rfl
    clear hR
    go_wp2
    go_ret
    exact ⟨by rw [HN.out]; exact ret_bool (by rw [Bool.eq_iff_iff]; simp), by rw [HN.out]; exact HS2.out, HF2.out⟩
  · have HN : Hid (Q = (false, needR c.en c.T ⟨#[93]⟩ p1)) := by show _ = _; rw [HQ.out, hq]; rfl
    go_wp2_with fail
    refine (rneed_any c p1 ⟨#[93]⟩ (solid1 _) _ HS2.out).mono ?_
    rintro e w3 ⟨rfl, h3, hf3⟩
    have HS3 : Hid (RSt c (needR c.en c.T ⟨#[93]⟩ p1) w3) := h3
    have HF3 : Hid (Fr (XR9 c.R) w w3) := HF2.out.trans hf3
    clear h3 hf3
    go_wp2
    go_ret
    exact ⟨by rw [HN.out]; rfl, by rw [HN.out]; exact HS3.out, HF3.out⟩
set_option maxHeartbeats 1600000 in
set_option maxRecDepth 100000 in
theorem rmore2_any (c : RC) (p : RP) (w : World) (h : RSt c p w) :
    Calls Tryz.prog 117 #[.pointer (some ⟨c.R, 0, none⟩), .bool false] w fun e w' => e = .returned (.bool (more2R c.en c.T p).1) ∧ RSt c (more2R c.en c.T p).2 w' ∧ Fr (XR9 c.R) w w' := by
  have HS : Hid (RSt c p w) := h
  obtain ⟨Q, hQ⟩ : ∃ Q, more2R c.en c.T p = Q := ⟨_, rfl⟩
  rw [hQ]
  have HQ : Hid (Q = if ((txR c.en c.T p).toList == [44]) = true then (true, needR c.en c.T ⟨#[44]⟩ p) else (false, needR c.en c.T ⟨#[93]⟩ p)) := by
    show _ = _; rw [← hQ]; rfl
  clear h hQ
  go_enter Tryz.func117, Tryz.ntmps117
  go_wp2_with fail
  refine (rtext_any c p _ HS.out).mono ?_
  rintro e w2 ⟨rfl, n2, h2⟩
  have HB2 : Hid (Below w.heap.size w w2) := drew9_below h2
  have HS2 : Hid (RSt c p w2) := HS.out.below HB2.out
  have HF2 : Hid (Fr (XR9 c.R) w w2) := Fr.below HB2.out
  clear h2
  obtain ⟨X, hX⟩ : ∃ X, txR c.en c.T p = X := ⟨_, rfl⟩
  rw [hX] at HQ ⊢
  clear hX
  cases hq : (X.toList == [44])
  · have HN : Hid (Q = (false, needR c.en c.T ⟨#[93]⟩ p)) := by show _ = _; rw [HQ.out, hq]; rfl
    go_wp2_with fail
    refine (rneed_any c p ⟨#[93]⟩ (solid1 _) _ HS2.out).mono ?_
    rintro e w3 ⟨rfl, h3, hf3⟩
    have HS3 : Hid (RSt c (needR c.en c.T ⟨#[93]⟩ p) w3) := h3
    have HF3 : Hid (Fr (XR9 c.R) w w3) := HF2.out.trans hf3
    clear h3 hf3
    go_wp2
    go_ret
    exact ⟨by rw [HN.out]; rfl, by rw [HN.out]; exact HS3.out, HF3.out⟩
  · have HN : Hid (Q = (true, needR c.en c.T ⟨#[44]⟩ p)) := by show _ = _; rw [HQ.out, hq]; rfl
    go_wp2_with fail
    refine (rneed_any c p ⟨#[44]⟩ (solid1 _) _ HS2.out).mono ?_
    rintro e w3 ⟨rfl, h3, hf3⟩
    have HS3 : Hid (RSt c (needR c.en c.T ⟨#[44]⟩ p) w3) := h3
    have HF3 : Hid (Fr (XR9 c.R) w w3) := HF2.out.trans hf3
    clear h3 hf3
    go_wp2
    go_ret
    exact ⟨by rw [HN.out]; rfl, by rw [HN.out]; exact HS3.out, HF3.out⟩
end Go.Proofs.YtdjbejlbmaiocagGreatDoor
/-
  WALKS: the reference's reader: K.
-/
namespace Go.Proofs.YtdjbejlbmaiocagGreatDoor
open Go.RowKit

theorem dig_snoc (l : List UInt8) (m : Nat) (a : UInt8) (h : l[m]? = some a) : digV (l.take (m + 1)) = digV (l.take m) * 10 + ((a.toNat : Int) - 48) := by
  rw [List.take_add_one, h]; simp [digV]
/-- A token that begins with a digit is a number. -/
theorem RSt.num {c : RC} {p : RP} {w : World} (h : RSt c p w) (hd : dig0 (txR c.en c.T p) = true) : p.k < c.T.length ∧ (1 ≤ (txR c.en c.T p).size ∧ (txR c.en c.T p).size ≤ 4) ∧ ∀ b ∈ (txR c.en c.T p).data.toList, 48 ≤ b.toNat ∧ b.toNat ≤ 57 := by
  by_cases hn : p.er = 0 ∧ p.k < c.T.length
  · obtain ⟨v, _, a, c', _, _, ht, _⟩ := h.blk
    have e : c.T[p.k]? = some c.T[p.k] := List.getElem?_eq_getElem hn.2
    have e2 : txR c.en c.T p = (c.T[p.k]).text := by unfold txR; rw [if_pos hn.1, drop_head c.en c.T p.k _ e]
    have hm := List.mem_of_getElem? e
    rw [e2] at hd ⊢
    have := (ht.2 _ hm).2 (h.dg _ hm hd)
    exact ⟨hn.2, this.1, this.2⟩
  · rw [tx_nothing _ _ _ hn] at hd
    cases hd
theorem dig0_at (X : ByteArray) (h : 0 < X.size) : dig0 X = isD X[0] := by
  have hl : 0 < X.data.toList.length := by rw [len_size]; exact h
  have e := list_get X 0 h hl
  unfold dig0
  match hq : X.data.toList with
  | [] => rw [hq] at hl; simp at hl
  | a :: r =>
    have : X[0] = a := by rw [← e]; simp [hq]
    rw [this]
set_option maxHeartbeats 3200000 in
set_option maxRecDepth 100000 in
theorem rk_any (c : RC) (p : RP) (w : World) (h : RSt c p w) :
    Calls Tryz.prog 61 #[.pointer (some ⟨c.R, 0, none⟩)] w fun e w' => e = .returned (.int .i64 (kR c.en c.T p).1) ∧ RSt c (kR c.en c.T p).2 w' ∧ Fr (XR9 c.R) w w' := by
  have HS : Hid (RSt c p w) := h
  obtain ⟨Q, hQ⟩ : ∃ Q, kR c.en c.T p = Q := ⟨_, rfl⟩
  rw [hQ]
  have HQ : Hid (Q = if ((txR c.en c.T p).toList == [45]) = true then kEndR c.en c.T true (needR c.en c.T ⟨#[45]⟩ p) else kEndR c.en c.T false p) := by
    show _ = _; rw [← hQ]; rfl
  have hT4 : c.T.length ≤ 4000 := by obtain ⟨v, _, a, c, _, _, ht, _⟩ := h.blk; exact ht.1
  clear h hQ
  go_enter Tryz.func61, Tryz.ntmps61
  go_wp2_with fail
  refine (rtext_any c p _ HS.out).mono ?_
  rintro e w2 ⟨rfl, n2, h2⟩
  have HB2 : Hid (Below w.heap.size w w2) := drew9_below h2
  have HS2 : Hid (RSt c p w2) := HS.out.below HB2.out
  have HF2 : Hid (Fr (XR9 c.R) w w2) := Fr.below HB2.out
  clear h2
  obtain ⟨X0, hX0⟩ : ∃ X, txR c.en c.T p = X := ⟨_, rfl⟩
  have HX0 : Hid (txR c.en c.T p = X0) := hX0
  rw [hX0] at HQ ⊢
  clear hX0
  cases hq0 : (X0.toList == [45])
  · have HQ1 : Hid (Q = kEndR c.en c.T false p) := by show _ = _; rw [HQ.out, hq0]; rfl
    obtain ⟨p1, hp1⟩ : ∃ p1, p = p1 := ⟨_, rfl⟩
    rw [hp1] at HS2 HQ1
    have HS1 := HS2
    have HF1 := HF2
    clear HQ HS2 HF2 HB2 hp1 HX0
    go_wp2_with fail
    refine (rtext_any c p1 _ HS1.out).mono ?_
    rintro e w2 ⟨rfl, n2, h2⟩
    have HB2 := drew9_below h2
    have HS2 : Hid (RSt c p1 w2) := HS1.out.below HB2
    have HF2 : Hid (Fr (XR9 c.R) w w2) := HF1.out.trans (Fr.below HB2)
    clear h2 HB2
    have HNUM : Hid (dig0 (txR c.en c.T p1) = true → p1.k < c.T.length ∧ (1 ≤ (txR c.en c.T p1).size ∧ (txR c.en c.T p1).size ≤ 4) ∧ ∀ b ∈ (txR c.en c.T p1).data.toList, 48 ≤ b.toNat ∧ b.toNat ≤ 57) := HS2.out.num
    have HQ2 : Hid (Q = if noNumR false (txR c.en c.T p1) = true then (0, wrongR 1 p1) else ((if false then -1 else 1) * digV (txR c.en c.T p1).data.toList, stepR p1)) := HQ1.out
    have hszm := HS2.out.size
    obtain ⟨X, hX⟩ : ∃ X, txR c.en c.T p1 = X := ⟨_, rfl⟩
    rw [hX] at HNUM HQ2 hszm ⊢
    clear hX HQ1
    by_cases hz : 0 < X.size
    · have hem : X.toList.isEmpty = false := by
        rw [ByteArray.toList_eq]; cases h : X.data.toList with
        | nil => have := len_size X; rw [h] at this; simp at this; omega
        | cons a r => rfl
      have hne : ¬ X.toList = [] := by intro h; rw [h] at hem; cases hem
      have hne2 : (X.toList == []) = false := by simpa using hne
      have HDA : Hid (dig0 X = isD X[0]) := dig0_at X hz
      cases hd : isD X[0]
      · have HN : Hid (Q = (0, wrongR 1 p1)) := by show _ = _; rw [HQ2.out, if_pos (by unfold noNumR; rw [HDA.out, hd]; rfl)]
        go_wp2_with fail
        refine (rdigit_any _ _).mono ?_
        rintro e w2 ⟨rfl, rfl⟩
        rw [hd]
        go_wp2_with fail
        refine (rwrong_any c p1 1 _ HS2.out).mono ?_
        rintro e w3 ⟨rfl, h3, hf3⟩
        have HS3 : Hid (RSt c (wrongR 1 p1) w3) := h3
        have HF3 : Hid (Fr (XR9 c.R) w w3) := HF2.out.trans hf3
        clear h3 hf3
        go_wp2
        go_ret
        exact ⟨by rw [HN.out]; rfl, by rw [HN.out]; exact HS3.out, HF3.out⟩
      · obtain ⟨hk, hsz, hdig⟩ := HNUM.out (HDA.out.trans hd)
        obtain ⟨v, hR, _⟩ := HS2.out.blk
        have k1 : w2.cell? ⟨c.R, 1, none⟩ = some (.int .i64 (p1.k : Int)) := blk9 hR 1 _ rfl
        have z1 := frz9 hR 1
        have HS3 : Hid (RSt c (stepR p1) (w2.setCell ⟨c.R, 1, none⟩ (.int .i64 ((p1.k : Int) + 1)))) := HS2.out.step hk
        have HF3 : Hid (Fr (XR9 c.R) w (w2.setCell ⟨c.R, 1, none⟩ (.int .i64 ((p1.k : Int) + 1)))) := HF2.out.trans (fr_set _ _ _ _)
        have HGET : Hid (∀ m (h : m < X.size), X[m].toNat < 256) := fun m h => X[m].toNat_lt
        have HDG : Hid (∀ m (h : m < X.size), ∃ D, digV (X.data.toList.take m) = D ∧ 0 ≤ D ∧ D ≤ 999 ∧ digV (X.data.toList.take (m + 1)) = D * 10 + ((X[m].toNat : Int) - 48) ∧ 48 ≤ X[m].toNat ∧ X[m].toNat ≤ 57) := by
          intro m h
          have hl : m < X.data.toList.length := by rw [len_size]; exact h
          have e := list_get X m h hl
          have e2 : X.data.toList[m]? = some X[m] := by rw [List.getElem?_eq_getElem hl, e]
          have hb := hdig X[m] (List.mem_of_getElem? e2)
          have b1 := (digV_bound (X.data.toList.take m) (by rw [List.length_take]; omega) (fun b hb => hdig b (List.mem_of_mem_take hb))).1
          have b2 := (digV_bound (X.data.toList.take (m + 1)) (by rw [List.length_take]; omega) (fun b hb => hdig b (List.mem_of_mem_take hb))).2
          have b3 := dig_snoc _ m _ e2
          exact ⟨_, rfl, b1, by omega, b3, hb.1, hb.2⟩
        have HDE : Hid (∃ D, digV (X.data.toList.take X.size) = D ∧ 0 ≤ D ∧ D ≤ 9999) := by
          obtain ⟨b1, b2⟩ := digV_bound (X.data.toList.take X.size) (by rw [List.length_take]; omega) (fun b hb => hdig b (List.mem_of_mem_take hb))
          exact ⟨_, rfl, b1, b2⟩
        have HTK : Hid (X.data.toList.take X.size = X.data.toList) := List.take_of_length_le (by rw [len_size]; exact Nat.le_refl _)
        clear hR hdig
        · have HQN : Hid (Q = ((1 : Int) * digV (X.data.toList.take X.size), stepR p1)) := by show _ = _; rw [HQ2.out, if_neg (by unfold noNumR; rw [HDA.out, hd]; simp), HTK.out]; rfl
          dsimp only
          go_wp2_with fail
          refine (rdigit_any _ _).mono ?_
          rintro e w2 ⟨rfl, rfl⟩
          rw [hd]
          go_wp2_with fail
          go_loopw [5, 6] (fun n i wr => ∃ m : Nat, m ≤ X.size ∧ i = .int .i64 m ∧ n = .int .i64 (digV (X.data.toList.take m)) ∧ wr = w2) (fun _ i _ => X.size - (intOf i).toNat)
          case atStart => exact ⟨0, by omega, rfl, rfl, rfl⟩
          case round =>
            obtain ⟨m, hml, rfl, rfl, rfl⟩ := hrel
            by_cases hlt2 : m < X.size
            · obtain ⟨D, hD, hD0, hD9, hDn, hc0, hc9⟩ := HDG.out m hlt2
              rw [hD]
              have hget := HGET.out m hlt2
              clear hD
              go_wp2
              go_roundw
              case rel => exact ⟨m + 1, by omega, by go_num, by rw [hDn]; go_num, by first | rfl | trivial⟩
              case measure => simp [intOf]; omega
            · obtain rfl : m = X.size := by omega
              obtain ⟨D, hD, hD0, hD9⟩ := HDE.out
              rw [hD]
              have HN : Hid (Q = ((1 : Int) * D, stepR p1)) := by show _ = _; rw [HQN.out, ← hD]
              clear hD
              go_wp2
              go_ret
              exact ⟨by rw [HN.out]; first | rfl | (congr 2; simp), by rw [HN.out]; exact HS3.out, HF3.out⟩
    · have hx : X = ByteArray.empty := by
        have h0 : X.data.toList = [] := List.eq_nil_of_length_eq_zero (by rw [len_size]; omega)
        cases X with
        | mk d => 
          have : d = #[] := by simpa using h0
          subst this; rfl
      have HN : Hid (Q = (0, wrongR 1 p1)) := by show _ = _; rw [HQ2.out, hx, if_pos (by unfold noNumR; rfl)]
      have hem : X.toList.isEmpty = true := by rw [hx]; decide +kernel
      have hne : X.toList = [] := by rw [hx]; decide +kernel
      have hne2 : (X.toList == []) = true := by rw [hne]; rfl
      clear hx
      go_wp2_with fail
      refine (rwrong_any c p1 1 _ HS2.out).mono ?_
      rintro e w3 ⟨rfl, h3, hf3⟩
      have HS3 : Hid (RSt c (wrongR 1 p1) w3) := h3
      have HF3 : Hid (Fr (XR9 c.R) w w3) := HF2.out.trans hf3
      clear h3 hf3
      go_wp2
      go_ret
      exact ⟨by rw [HN.out]; rfl, by rw [HN.out]; exact HS3.out, HF3.out⟩
  · have HQ1 : Hid (Q = kEndR c.en c.T true (needR c.en c.T ⟨#[45]⟩ p)) := by show _ = _; rw [HQ.out, hq0]; rfl
    go_wp2_with fail
    refine (rneed_any c p ⟨#[45]⟩ (solid1 _) _ HS2.out).mono ?_
    rintro e w1 ⟨rfl, h3, hf3⟩
    have HF1 : Hid (Fr (XR9 c.R) w w1) := HF2.out.trans hf3
    obtain ⟨p1, hp1⟩ : ∃ p1, needR c.en c.T ⟨#[45]⟩ p = p1 := ⟨_, rfl⟩
    rw [hp1] at h3 HQ1
    have HS1 : Hid (RSt c p1 w1) := h3
    clear h3 hf3 HQ HS2 HF2 HB2 hp1
    go_wp2_with fail
    refine (rtext_any c p1 _ HS1.out).mono ?_
    rintro e w2 ⟨rfl, n2, h2⟩
    have HB2 := drew9_below h2
    have HS2 : Hid (RSt c p1 w2) := HS1.out.below HB2
    have HF2 : Hid (Fr (XR9 c.R) w w2) := HF1.out.trans (Fr.below HB2)
    clear h2 HB2
    have HNUM : Hid (dig0 (txR c.en c.T p1) = true → p1.k < c.T.length ∧ (1 ≤ (txR c.en c.T p1).size ∧ (txR c.en c.T p1).size ≤ 4) ∧ ∀ b ∈ (txR c.en c.T p1).data.toList, 48 ≤ b.toNat ∧ b.toNat ≤ 57) := HS2.out.num
    have HQ2 : Hid (Q = if noNumR true (txR c.en c.T p1) = true then (0, wrongR 1 p1) else ((if true then -1 else 1) * digV (txR c.en c.T p1).data.toList, stepR p1)) := HQ1.out
    have hszm := HS2.out.size
    obtain ⟨X, hX⟩ : ∃ X, txR c.en c.T p1 = X := ⟨_, rfl⟩
    rw [hX] at HNUM HQ2 hszm ⊢
    clear hX HQ1
    by_cases hz : 0 < X.size
    · have hem : X.toList.isEmpty = false := by
        rw [ByteArray.toList_eq]; cases h : X.data.toList with
        | nil => have := len_size X; rw [h] at this; simp at this; omega
        | cons a r => rfl
      have hne : ¬ X.toList = [] := by intro h; rw [h] at hem; cases hem
      have hne2 : (X.toList == []) = false := by simpa using hne
      have HDA : Hid (dig0 X = isD X[0]) := dig0_at X hz
      cases hd : isD X[0]
      · have HN : Hid (Q = (0, wrongR 1 p1)) := by show _ = _; rw [HQ2.out, if_pos (by unfold noNumR; rw [HDA.out, hd]; rfl)]
        go_wp2_with fail
        refine (rdigit_any _ _).mono ?_
        rintro e w2 ⟨rfl, rfl⟩
        rw [hd]
        go_wp2_with fail
        refine (rwrong_any c p1 1 _ HS2.out).mono ?_
        rintro e w3 ⟨rfl, h3, hf3⟩
        have HS3 : Hid (RSt c (wrongR 1 p1) w3) := h3
        have HF3 : Hid (Fr (XR9 c.R) w w3) := HF2.out.trans hf3
        clear h3 hf3
        go_wp2
        go_ret
        exact ⟨by rw [HN.out]; rfl, by rw [HN.out]; exact HS3.out, HF3.out⟩
      · obtain ⟨hk, hsz, hdig⟩ := HNUM.out (HDA.out.trans hd)
        obtain ⟨v, hR, _⟩ := HS2.out.blk
        have k1 : w2.cell? ⟨c.R, 1, none⟩ = some (.int .i64 (p1.k : Int)) := blk9 hR 1 _ rfl
        have z1 := frz9 hR 1
        have HS3 : Hid (RSt c (stepR p1) (w2.setCell ⟨c.R, 1, none⟩ (.int .i64 ((p1.k : Int) + 1)))) := HS2.out.step hk
        have HF3 : Hid (Fr (XR9 c.R) w (w2.setCell ⟨c.R, 1, none⟩ (.int .i64 ((p1.k : Int) + 1)))) := HF2.out.trans (fr_set _ _ _ _)
        have HGET : Hid (∀ m (h : m < X.size), X[m].toNat < 256) := fun m h => X[m].toNat_lt
        have HDG : Hid (∀ m (h : m < X.size), ∃ D, digV (X.data.toList.take m) = D ∧ 0 ≤ D ∧ D ≤ 999 ∧ digV (X.data.toList.take (m + 1)) = D * 10 + ((X[m].toNat : Int) - 48) ∧ 48 ≤ X[m].toNat ∧ X[m].toNat ≤ 57) := by
          intro m h
          have hl : m < X.data.toList.length := by rw [len_size]; exact h
          have e := list_get X m h hl
          have e2 : X.data.toList[m]? = some X[m] := by rw [List.getElem?_eq_getElem hl, e]
          have hb := hdig X[m] (List.mem_of_getElem? e2)
          have b1 := (digV_bound (X.data.toList.take m) (by rw [List.length_take]; omega) (fun b hb => hdig b (List.mem_of_mem_take hb))).1
          have b2 := (digV_bound (X.data.toList.take (m + 1)) (by rw [List.length_take]; omega) (fun b hb => hdig b (List.mem_of_mem_take hb))).2
          have b3 := dig_snoc _ m _ e2
          exact ⟨_, rfl, b1, by omega, b3, hb.1, hb.2⟩
        have HDE : Hid (∃ D, digV (X.data.toList.take X.size) = D ∧ 0 ≤ D ∧ D ≤ 9999) := by
          obtain ⟨b1, b2⟩ := digV_bound (X.data.toList.take X.size) (by rw [List.length_take]; omega) (fun b hb => hdig b (List.mem_of_mem_take hb))
          exact ⟨_, rfl, b1, b2⟩
        have HTK : Hid (X.data.toList.take X.size = X.data.toList) := List.take_of_length_le (by rw [len_size]; exact Nat.le_refl _)
        clear hR hdig
        · cases hq : (X.toList == [48])
          · have HQN : Hid (Q = ((-1 : Int) * digV (X.data.toList.take X.size), stepR p1)) := by show _ = _; rw [HQ2.out, if_neg (by unfold noNumR; rw [HDA.out, hd, hq]; simp), HTK.out]; rfl
            go_wp2_with fail
            refine (rdigit_any _ _).mono ?_
            rintro e w2 ⟨rfl, rfl⟩
            rw [hd]
            go_wp2_with fail
            go_loopw [5, 6] (fun n i wr => ∃ m : Nat, m ≤ X.size ∧ i = .int .i64 m ∧ n = .int .i64 (digV (X.data.toList.take m)) ∧ wr = w2) (fun _ i _ => X.size - (intOf i).toNat)
            case atStart => exact ⟨0, by omega, rfl, rfl, rfl⟩
            case round =>
              obtain ⟨m, hml, rfl, rfl, rfl⟩ := hrel
              by_cases hlt2 : m < X.size
              · obtain ⟨D, hD, hD0, hD9, hDn, hc0, hc9⟩ := HDG.out m hlt2
                rw [hD]
                have hget := HGET.out m hlt2
                clear hD
                go_wp2
                go_roundw
                case rel => exact ⟨m + 1, by omega, by go_num, by rw [hDn]; go_num, by first | rfl | trivial⟩
                case measure => simp [intOf]; omega
              · obtain rfl : m = X.size := by omega
                obtain ⟨D, hD, hD0, hD9⟩ := HDE.out
                rw [hD]
                have HN : Hid (Q = ((-1 : Int) * D, stepR p1)) := by show _ = _; rw [HQN.out, ← hD]
                clear hD
                go_wp2
                go_ret
                exact ⟨by rw [HN.out]; first | rfl | (congr 2; simp), by rw [HN.out]; exact HS3.out, HF3.out⟩
          · have HN : Hid (Q = (0, wrongR 1 p1)) := by show _ = _; rw [HQ2.out, if_pos (by unfold noNumR; rw [HDA.out, hd, hq]; rfl)]
            clear k1 z1
            go_wp2_with fail
            refine (rdigit_any _ _).mono ?_
            rintro e w2 ⟨rfl, rfl⟩
            rw [hd]
            go_wp2_with fail
            refine (rwrong_any c p1 1 _ HS2.out).mono ?_
            rintro e w3 ⟨rfl, h3, hf3⟩
            have HS3 : Hid (RSt c (wrongR 1 p1) w3) := h3
            have HF3 : Hid (Fr (XR9 c.R) w w3) := HF2.out.trans hf3
            clear h3 hf3
            go_wp2
            go_ret
            exact ⟨by rw [HN.out]; rfl, by rw [HN.out]; exact HS3.out, HF3.out⟩
    · have hx : X = ByteArray.empty := by
        have h0 : X.data.toList = [] := List.eq_nil_of_length_eq_zero (by rw [len_size]; omega)
        cases X with
        | mk d => 
          have : d = #[] := by simpa using h0
          subst this; rfl
      have HN : Hid (Q = (0, wrongR 1 p1)) := by show _ = _; rw [HQ2.out, hx, if_pos (by unfold noNumR; rfl)]
      have hem : X.toList.isEmpty = true := by rw [hx]; decide +kernel
      have hne : X.toList = [] := by rw [hx]; decide +kernel
      have hne2 : (X.toList == []) = true := by rw [hne]; rfl
      clear hx
      go_wp2_with fail
      refine (rwrong_any c p1 1 _ HS2.out).mono ?_
      rintro e w3 ⟨rfl, h3, hf3⟩
      have HS3 : Hid (RSt c (wrongR 1 p1) w3) := h3
      have HF3 : Hid (Fr (XR9 c.R) w w3) := HF2.out.trans hf3
      clear h3 hf3
      go_wp2
      go_ret
      exact ⟨by rw [HN.out]; rfl, by rw [HN.out]; exact HS3.out, HF3.out⟩
end Go.Proofs.YtdjbejlbmaiocagGreatDoor
