/-
  PART 18 of what the proof leans on (RfE, RfF, RfQ, RfR, RfS, RfT, RfG).
-/
import Derived.Test.YtdjbejlbmaiocagGreatDoorPartQ
/-
  WALKS: the reference's reader: Ks, Vs.
-/
namespace Go.Proofs.YtdjbejlbmaiocagGreatDoor
open Go.RowKit

/-- A reader's part that never goes back. -/
def Onward {α : Type} (f : RP → α × RP) : Prop := ∀ p, p.k ≤ (f p).2.k
theorem wrong_k (e : Int) (p : RP) : (wrongR e p).k = p.k := by unfold wrongR; split <;> rfl
theorem need_k (en : Int) (T : List Tok) (s : ByteArray) (p : RP) : p.k ≤ (needR en T s p).k := by
  unfold needR
  split
  · split
    · show p.k ≤ p.k + 1; omega
    · rw [wrong_k]; exact Nat.le_refl _
  · exact Nat.le_refl _
theorem word_k (en : Int) (T : List Tok) (p : RP) : ∀ (ws : List ByteArray) (i : Nat), p.k ≤ (wordR en T p ws i).2.k
  | [], i => by unfold wordR; show _ ≤ (wrongR 1 p).k; rw [wrong_k]; exact Nat.le_refl _
  | s :: r, i => by
    unfold wordR
    split
    · show p.k ≤ p.k + 1; omega
    · exact word_k en T p r (i + 1)
theorem vat_k (s : ByteArray) (p : RP) : ∀ (nm : List ByteArray) (i : Nat), p.k ≤ (vAtR s p nm i).2.k
  | [], i => by unfold vAtR; show _ ≤ (wrongR 5 p).k; rw [wrong_k]; exact Nat.le_refl _
  | n :: r, i => by
    unfold vAtR
    split
    · show p.k ≤ p.k + 1; omega
    · exact vat_k s p r (i + 1)
theorem v_k (en : Int) (T : List Tok) (nm : List ByteArray) : Onward (vR en T nm) := fun p => by
  unfold vR
  split
  · exact vat_k _ _ _ _
  · show _ ≤ (wrongR 1 p).k; rw [wrong_k]; exact Nat.le_refl _
theorem kend_k (en : Int) (T : List Tok) (ng : Bool) : Onward (kEndR en T ng) := fun p => by
  unfold kEndR
  split
  · show _ ≤ (wrongR 1 p).k; rw [wrong_k]; exact Nat.le_refl _
  · show p.k ≤ p.k + 1; omega
theorem k_k (en : Int) (T : List Tok) : Onward (kR en T) := fun p => by
  unfold kR
  split
  · exact Nat.le_trans (need_k en T _ p) (kend_k en T true _)
  · exact kend_k en T false p
theorem lit_k (en : Int) (T : List Tok) (nm : List ByteArray) : Onward (litR en T nm) := fun p =>
  Nat.le_trans (v_k en T nm p) (Nat.le_trans (word_k en T _ _ _) (k_k en T _))
theorem more2_k (en : Int) (T : List Tok) (p : RP) (h : (more2R en T p).1 = true) : (more2R en T p).2.k = p.k + 1 := by
  unfold more2R at h ⊢
  split at h
  · rename_i hq
    rw [if_pos hq]
    have he : p.er = 0 := by
      apply Classical.byContradiction
      intro he
      rw [tx_still en T p he] at hq
      revert hq
      decide +kernel
    show (needR en T ⟨#[44]⟩ p).k = p.k + 1
    unfold needR
    rw [if_pos he, if_pos (by rw [show (⟨#[44]⟩ : ByteArray).toList = [44] by rw [ByteArray.toList_eq]]; exact hq)]
    rfl
  · cases h
def lenOf (v : Value) : Nat := match v with | .slice _ n _ => n | _ => 0
theorem loop_go {α : Type} (en : Int) (T : List Tok) (item : RP → α × RP) (f : Nat) (acc : List α) (p : RP) : loopR en T item (f + 1) acc (true, p) = loopR en T item f (acc ++ [(item p).1]) (more2R en T (item p).2) := by
  conv => lhs; unfold loopR
  rfl
theorem loop_end {α : Type} (en : Int) (T : List Tok) (item : RP → α × RP) (f : Nat) (acc : List α) (p : RP) : loopR en T item f acc (false, p) = (acc, p) := by
  cases f <;> (unfold loopR; rfl)

set_option maxHeartbeats 3200000 in
set_option maxRecDepth 100000 in
theorem rks_any (c : RC) (p : RP) (w : World) (h : RSt c p w) :
    Calls Tryz.prog 115 #[.pointer (some ⟨c.R, 0, none⟩)] w fun e w' => ∃ v, e = .returned v ∧ w'.ownsRow w.heap.size 3 1 v (listR c.en c.T (kR c.en c.T) p).1.length ((listR c.en c.T (kR c.en c.T) p).1.map (Value.int .i64)) ∧ RSt c (listR c.en c.T (kR c.en c.T) p).2 w' ∧ Fr (XR9 c.R) w w' := by
  have HS : Hid (RSt c p w) := h
  obtain ⟨Q, hQ⟩ : ∃ Q, listR c.en c.T (kR c.en c.T) p = Q := ⟨_, rfl⟩
  rw [hQ]
  have HQ : Hid (loopR c.en c.T (kR c.en c.T) (c.T.length + 2) [] (more1R c.en c.T p) = Q) := hQ
  have hT4 : c.T.length ≤ 4000 := by obtain ⟨v, _, a, c, _, _, ht, _⟩ := h.blk; exact ht.1
  have HLT := h.lt
  have HNW : Hid (c.N ≤ w.heap.size ∧ c.NB ≤ w.heap.size) := ⟨h.Nw, h.nb⟩
  obtain ⟨i0, hi, hz0, hz1, hz2⟩ := info_parts Tryz.infoInt5
  clear h hQ
  go_enter Tryz.func115, Tryz.ntmps115
  go_wp2_with fail
  refine (rmore1_any c p _ HS.out).mono ?_
  rintro e w1 ⟨rfl, h1, hf1⟩
  obtain ⟨q, hq⟩ : ∃ q, more1R c.en c.T p = q := ⟨_, rfl⟩
  rw [hq] at HQ h1 ⊢
  obtain ⟨b, p1⟩ := q
  have HS1 : Hid (RSt c p1 w1) := h1
  have HF1 : Hid (Fr (XR9 c.R) w w1) := hf1
  clear h1 hf1 hq
  dsimp only
  go_wp2_with fail
  go_loopw [3, 4] (fun o mo wr => ∃ (f : Nat) (acc : List Int) (b : Bool) (p : RP), Hid (loopR c.en c.T (kR c.en c.T) f acc (b, p) = Q) ∧ mo = .bool b ∧ Hid (RSt c p wr) ∧ wr.ownsRow w.heap.size 3 1 o acc.length (acc.map (Value.int .i64)) ∧ Hid (Fr (XR9 c.R) w wr) ∧ acc.length + f = c.T.length + 2 ∧ (b = true → c.T.length + 2 ≤ f + p.k)) (fun o _ _ => c.T.length + 3 - lenOf o)
  case atStart => exact ⟨c.T.length + 2, [], b, p1, HQ, rfl, HS1, World.ownsRow_nil _ _ _ _, HF1, by simp, fun _ => by omega⟩
  case round =>
    obtain ⟨f, acc, b, p2, HQ2, rfl, HS2, hown, HF2, haf, hbf⟩ := hrel
    have HOW : Hid (wr.ownsRow w.heap.size 3 1 u3 acc.length (acc.map (Value.int .i64))) := hown
    obtain ⟨al, cl, rfl⟩ := own_form hown
    have HKT := HS2.out.kT
    clear hown
    cases b
    · have HE : Hid (Q = (acc, p2)) := HQ2.out.symm.trans (loop_end _ _ _ _ _ _)
      clear hbf
      go_wp2
      go_ret
      exact ⟨_, rfl, by rw [HE.out]; exact HOW.out, by rw [HE.out]; exact HS2.out, HF2.out⟩
    · have hbf2 := hbf rfl
      obtain ⟨g, rfl⟩ : ∃ g, f = g + 1 := ⟨f - 1, by omega⟩
      have HQ3 : Hid (loopR c.en c.T (kR c.en c.T) g (acc ++ [((kR c.en c.T) p2).1]) (more2R c.en c.T ((kR c.en c.T) p2).2) = Q) := (loop_go _ _ _ _ _ _).symm.trans HQ2.out
      have HKK : Hid (p2.k ≤ ((kR c.en c.T) p2).2.k) := k_k c.en c.T p2
      clear hbf HQ2
      go_wp2_with fail
      refine (rk_any c p2 _ HS2.out).mono ?_
      rintro e w3 ⟨rfl, h3, hf3⟩
      obtain ⟨X, hX⟩ : ∃ X, (kR c.en c.T) p2 = X := ⟨_, rfl⟩
      rw [hX] at HQ3 HKK h3 ⊢
      obtain ⟨x, p3⟩ := X
      have HS3 : Hid (RSt c p3 w3) := h3
      have HF3 : Hid (Fr (XR9 c.R) w w3) := HF2.out.trans hf3
      have HO3 : Hid (w3.ownsRow w.heap.size 3 1 (.slice al acc.length cl) acc.length (acc.map (Value.int .i64))) := own_fr HOW.out hf3 (fun k hk => by rw [hk]; exact HLT)
      have hsz3 : w.heap.size ≤ w3.heap.size := HF3.out.size
      have hox := HO3.out.alloc (.cells #[.int .i64 x] 3)
      clear h3 hf3 hX HOW
      dsimp only at *
      go_wp2_with (at_builtin; refine wpList_append_own _ rfl _ _ 26 rfl w.heap.size 3 i0 (.int .i64 0) 1 8 Tryz.underInts5 hi hz0 hz1 hz2 rfl (by decide) _ _ _ rfl hox ⟨w3.heap.size, 0, none⟩ 1 1 [.int .i64 x] rfl rfl ?c1 ?c2 ?c3 ?c4 ?c5 ?_)
      case c1 => exact one_laid5 w3 x
      case c2 => intro u hu; rcases List.mem_singleton.1 hu with rfl; rfl
      case c3 => unfold maxLen; omega
      case c4 => omega
      case c5 => simp; omega
      intro v9 w9 hown9 hg9 _
      have hrow : ∀ k, (Value.slice al acc.length cl).ownBlock = some k → w.heap.size ≤ k := fun k hk => (HO3.out.lt k hk).1
      have HS9 : Hid (RSt c p3 w9) := (HS3.out.below (below_alloc _ _)).grown hg9 (fun k hk => by have h1 := hrow k hk; have h2 := HNW.out; exact ⟨by omega, by omega, by omega⟩)
      have HF9 : Hid (Fr (XR9 c.R) w w9) := (HF3.out.alloc _).grown hg9 (fun k hk => Or.inr (hrow k hk))
      have HO9 : Hid (w9.ownsRow w.heap.size 3 1 v9 (acc ++ [x]).length ((acc ++ [x]).map (Value.int .i64))) := by
        show w9.ownsRow _ _ _ _ _ _
        rw [List.length_append, List.map_append]; exact hown9
      clear hown9 hg9 hrow hox
      obtain ⟨a9, c9, rfl⟩ := own_form HO9.out
      go_wp2_with fail
      refine (rmore2_any c p3 _ HS9.out).mono ?_
      rintro e w4 ⟨rfl, h4, hf4⟩
      have HM2 : Hid ((more2R c.en c.T p3).1 = true → (more2R c.en c.T p3).2.k = p3.k + 1) := more2_k c.en c.T p3
      obtain ⟨q, hq⟩ : ∃ q, more2R c.en c.T p3 = q := ⟨_, rfl⟩
      rw [hq] at HQ3 h4 HM2 ⊢
      obtain ⟨b4, p4⟩ := q
      have HS4 : Hid (RSt c p4 w4) := h4
      have HF4 : Hid (Fr (XR9 c.R) w w4) := HF9.out.trans hf4
      have HO4 : Hid (w4.ownsRow w.heap.size 3 1 (.slice a9 (acc ++ [x]).length c9) (acc ++ [x]).length ((acc ++ [x]).map (Value.int .i64))) := own_fr HO9.out hf4 (fun k hk => by rw [hk]; exact HLT)
      clear h4 hf4 hq
      dsimp only at *
      have HB4 : Hid (b4 = true → c.T.length + 2 ≤ g + p4.k) := fun hb => by have h1 := HM2.out hb; have h2 := HKK.out; omega
      have HA4 : Hid ((acc ++ [x]).length + g = c.T.length + 2) := by show _ = _; simp; omega
      have HL4 : Hid ((acc ++ [x]).length = acc.length + 1) := by show _ = _; simp
      obtain ⟨acc2, hacc2⟩ : ∃ acc2, acc ++ [x] = acc2 := ⟨_, rfl⟩
      rw [hacc2] at HQ3 HO4 HA4 HL4 HO9 ⊢
      clear hacc2
      go_wp2
      go_roundw
      case rel => exact ⟨g, acc2, b4, p4, HQ3, rfl, HS4, HO4.out, HF4, HA4.out, HB4.out⟩
      case measure => have h1 := HL4.out; have h2 := HA4.out; simp [lenOf]; omega
set_option maxHeartbeats 3200000 in
set_option maxRecDepth 100000 in
theorem rvs_any (c : RC) (p : RP) (w : World) (h : RSt c p w) :
    Calls Tryz.prog 116 #[.pointer (some ⟨c.R, 0, none⟩)] w fun e w' => ∃ v, e = .returned v ∧ w'.ownsRow w.heap.size 3 1 v (listR c.en c.T (vR c.en c.T c.nm) p).1.length ((listR c.en c.T (vR c.en c.T c.nm) p).1.map (Value.int .i64)) ∧ RSt c (listR c.en c.T (vR c.en c.T c.nm) p).2 w' ∧ Fr (XR9 c.R) w w' := by
  have HS : Hid (RSt c p w) := h
  obtain ⟨Q, hQ⟩ : ∃ Q, listR c.en c.T (vR c.en c.T c.nm) p = Q := ⟨_, rfl⟩
  rw [hQ]
  have HQ : Hid (loopR c.en c.T (vR c.en c.T c.nm) (c.T.length + 2) [] (more1R c.en c.T p) = Q) := hQ
  have hT4 : c.T.length ≤ 4000 := by obtain ⟨v, _, a, c, _, _, ht, _⟩ := h.blk; exact ht.1
  have HLT := h.lt
  have HNW : Hid (c.N ≤ w.heap.size ∧ c.NB ≤ w.heap.size) := ⟨h.Nw, h.nb⟩
  obtain ⟨i0, hi, hz0, hz1, hz2⟩ := info_parts Tryz.infoInt5
  clear h hQ
  go_enter Tryz.func116, Tryz.ntmps116
  go_wp2_with fail
  refine (rmore1_any c p _ HS.out).mono ?_
  rintro e w1 ⟨rfl, h1, hf1⟩
  obtain ⟨q, hq⟩ : ∃ q, more1R c.en c.T p = q := ⟨_, rfl⟩
  rw [hq] at HQ h1 ⊢
  obtain ⟨b, p1⟩ := q
  have HS1 : Hid (RSt c p1 w1) := h1
  have HF1 : Hid (Fr (XR9 c.R) w w1) := hf1
  clear h1 hf1 hq
  dsimp only
  go_wp2_with fail
  go_loopw [3, 4] (fun o mo wr => ∃ (f : Nat) (acc : List Int) (b : Bool) (p : RP), Hid (loopR c.en c.T (vR c.en c.T c.nm) f acc (b, p) = Q) ∧ mo = .bool b ∧ Hid (RSt c p wr) ∧ wr.ownsRow w.heap.size 3 1 o acc.length (acc.map (Value.int .i64)) ∧ Hid (Fr (XR9 c.R) w wr) ∧ acc.length + f = c.T.length + 2 ∧ (b = true → c.T.length + 2 ≤ f + p.k)) (fun o _ _ => c.T.length + 3 - lenOf o)
  case atStart => exact ⟨c.T.length + 2, [], b, p1, HQ, rfl, HS1, World.ownsRow_nil _ _ _ _, HF1, by simp, fun _ => by omega⟩
  case round =>
    obtain ⟨f, acc, b, p2, HQ2, rfl, HS2, hown, HF2, haf, hbf⟩ := hrel
    have HOW : Hid (wr.ownsRow w.heap.size 3 1 u3 acc.length (acc.map (Value.int .i64))) := hown
    obtain ⟨al, cl, rfl⟩ := own_form hown
    have HKT := HS2.out.kT
    clear hown
    cases b
    · have HE : Hid (Q = (acc, p2)) := HQ2.out.symm.trans (loop_end _ _ _ _ _ _)
      clear hbf
      go_wp2
      go_ret
      exact ⟨_, rfl, by rw [HE.out]; exact HOW.out, by rw [HE.out]; exact HS2.out, HF2.out⟩
    · have hbf2 := hbf rfl
      obtain ⟨g, rfl⟩ : ∃ g, f = g + 1 := ⟨f - 1, by omega⟩
      have HQ3 : Hid (loopR c.en c.T (vR c.en c.T c.nm) g (acc ++ [((vR c.en c.T c.nm) p2).1]) (more2R c.en c.T ((vR c.en c.T c.nm) p2).2) = Q) := (loop_go _ _ _ _ _ _).symm.trans HQ2.out
      have HKK : Hid (p2.k ≤ ((vR c.en c.T c.nm) p2).2.k) := v_k c.en c.T c.nm p2
      clear hbf HQ2
      go_wp2_with fail
      refine (rv_any c p2 _ HS2.out).mono ?_
      rintro e w3 ⟨rfl, h3, hf3⟩
      obtain ⟨X, hX⟩ : ∃ X, (vR c.en c.T c.nm) p2 = X := ⟨_, rfl⟩
      rw [hX] at HQ3 HKK h3 ⊢
      obtain ⟨x, p3⟩ := X
      have HS3 : Hid (RSt c p3 w3) := h3
      have HF3 : Hid (Fr (XR9 c.R) w w3) := HF2.out.trans hf3
      have HO3 : Hid (w3.ownsRow w.heap.size 3 1 (.slice al acc.length cl) acc.length (acc.map (Value.int .i64))) := own_fr HOW.out hf3 (fun k hk => by rw [hk]; exact HLT)
      have hsz3 : w.heap.size ≤ w3.heap.size := HF3.out.size
      have hox := HO3.out.alloc (.cells #[.int .i64 x] 3)
      clear h3 hf3 hX HOW
      dsimp only at *
      go_wp2_with (at_builtin; refine wpList_append_own _ rfl _ _ 26 rfl w.heap.size 3 i0 (.int .i64 0) 1 8 Tryz.underInts5 hi hz0 hz1 hz2 rfl (by decide) _ _ _ rfl hox ⟨w3.heap.size, 0, none⟩ 1 1 [.int .i64 x] rfl rfl ?c1 ?c2 ?c3 ?c4 ?c5 ?_)
      case c1 => exact one_laid5 w3 x
      case c2 => intro u hu; rcases List.mem_singleton.1 hu with rfl; rfl
      case c3 => unfold maxLen; omega
      case c4 => omega
      case c5 => simp; omega
      intro v9 w9 hown9 hg9 _
      have hrow : ∀ k, (Value.slice al acc.length cl).ownBlock = some k → w.heap.size ≤ k := fun k hk => (HO3.out.lt k hk).1
      have HS9 : Hid (RSt c p3 w9) := (HS3.out.below (below_alloc _ _)).grown hg9 (fun k hk => by have h1 := hrow k hk; have h2 := HNW.out; exact ⟨by omega, by omega, by omega⟩)
      have HF9 : Hid (Fr (XR9 c.R) w w9) := (HF3.out.alloc _).grown hg9 (fun k hk => Or.inr (hrow k hk))
      have HO9 : Hid (w9.ownsRow w.heap.size 3 1 v9 (acc ++ [x]).length ((acc ++ [x]).map (Value.int .i64))) := by
        show w9.ownsRow _ _ _ _ _ _
        rw [List.length_append, List.map_append]; exact hown9
      clear hown9 hg9 hrow hox
      obtain ⟨a9, c9, rfl⟩ := own_form HO9.out
      go_wp2_with fail
      refine (rmore2_any c p3 _ HS9.out).mono ?_
      rintro e w4 ⟨rfl, h4, hf4⟩
      have HM2 : Hid ((more2R c.en c.T p3).1 = true → (more2R c.en c.T p3).2.k = p3.k + 1) := more2_k c.en c.T p3
      obtain ⟨q, hq⟩ : ∃ q, more2R c.en c.T p3 = q := ⟨_, rfl⟩
      rw [hq] at HQ3 h4 HM2 ⊢
      obtain ⟨b4, p4⟩ := q
      have HS4 : Hid (RSt c p4 w4) := h4
      have HF4 : Hid (Fr (XR9 c.R) w w4) := HF9.out.trans hf4
      have HO4 : Hid (w4.ownsRow w.heap.size 3 1 (.slice a9 (acc ++ [x]).length c9) (acc ++ [x]).length ((acc ++ [x]).map (Value.int .i64))) := own_fr HO9.out hf4 (fun k hk => by rw [hk]; exact HLT)
      clear h4 hf4 hq
      dsimp only at *
      have HB4 : Hid (b4 = true → c.T.length + 2 ≤ g + p4.k) := fun hb => by have h1 := HM2.out hb; have h2 := HKK.out; omega
      have HA4 : Hid ((acc ++ [x]).length + g = c.T.length + 2) := by show _ = _; simp; omega
      have HL4 : Hid ((acc ++ [x]).length = acc.length + 1) := by show _ = _; simp
      obtain ⟨acc2, hacc2⟩ : ∃ acc2, acc ++ [x] = acc2 := ⟨_, rfl⟩
      rw [hacc2] at HQ3 HO4 HA4 HL4 HO9 ⊢
      clear hacc2
      go_wp2
      go_roundw
      case rel => exact ⟨g, acc2, b4, p4, HQ3, rfl, HS4, HO4.out, HF4, HA4.out, HB4.out⟩
      case measure => have h1 := HL4.out; have h2 := HA4.out; simp [lenOf]; omega
end Go.Proofs.YtdjbejlbmaiocagGreatDoor
/-
  WALKS: the reference's reader: Lit.
-/
namespace Go.Proofs.YtdjbejlbmaiocagGreatDoor
open Go.RowKit

theorem RSt.set {c : RC} {p : RP} {w : World} (h : RSt c p w) {q : Addr} (hR : q.block ≠ c.R) (hN : c.N ≤ q.block) (hNB : c.NB ≤ q.block) (u : Value) : RSt c p (w.setCell q u) := by
  obtain ⟨h1, h2, hn, h3, hd, h4, v, hb, hT⟩ := h
  refine ⟨h1, by simpa using h2, by simpa using hn, h3, hd, ?_, v, (Below.heap_setCell _ _ _ _ (by omega)).trans hb, hT.old fun q' hq => World.cell?_of_block (Below.heap_setCell _ _ _ _ (by omega))⟩
  obtain ⟨a, cc, hv, hm, hr⟩ := h4
  refine ⟨a, cc, hv, hm, fun i t ht => ?_⟩
  obtain ⟨b, off, ha, hb2, hlt, hc⟩ := hr i t ht
  exact ⟨b, off, ha, hb2, hlt, (World.cell?_of_block (Below.heap_setCell _ _ _ _ (fun e => by have e2 : b = q.block := e; omega))).trans hc⟩
theorem word_bound (en : Int) (T : List Tok) (p : RP) : ∀ (ws : List ByteArray) (i : Nat), 0 ≤ (wordR en T p ws i).1 ∧ (wordR en T p ws i).1 ≤ ((i + ws.length : Nat) : Int)
  | [], i => by unfold wordR; simp
  | s :: r, i => by
    unfold wordR
    split
    · simp; omega
    · have := word_bound en T p r (i + 1)
      simp at this ⊢
      omega
theorem solid_ops : ∀ s ∈ opWL.tail, solid s := by
  intro s hs
  simp only [opWL, List.tail_cons, List.mem_cons, List.not_mem_nil, or_false] at hs
  rcases hs with rfl | rfl | rfl | rfl <;> (unfold solid; rw [ByteArray.toList_eq, ByteArray.toList_eq]; rfl)
set_option maxHeartbeats 1600000 in
set_option maxRecDepth 100000 in
theorem rlitR_any (c : RC) (p : RP) (w : World) (h : RSt c p w) :
    Calls Tryz.prog 118 #[.pointer (some ⟨c.R, 0, none⟩)] w fun e w' => e = .returned (litA (litR c.en c.T c.nm p).1) ∧ RSt c (litR c.en c.T c.nm p).2 w' ∧ Fr (XR9 c.R) w w' := by
  have HS : Hid (RSt c p w) := h
  obtain ⟨Q, hQ⟩ : ∃ Q, litR c.en c.T c.nm p = Q := ⟨_, rfl⟩
  rw [hQ]
  have HQ : Hid (Q = (⟨(vR c.en c.T c.nm p).1, 1 + (wordR c.en c.T (vR c.en c.T c.nm p).2 opWL.tail 0).1, (kR c.en c.T (wordR c.en c.T (vR c.en c.T c.nm p).2 opWL.tail 0).2).1⟩, (kR c.en c.T (wordR c.en c.T (vR c.en c.T c.nm p).2 opWL.tail 0).2).2)) := by
    show _ = _; rw [← hQ]; rfl
  have hlt := h.lt
  have HNW : Hid (c.N ≤ w.heap.size ∧ c.NB ≤ w.heap.size) := ⟨h.Nw, h.nb⟩
  clear h hQ
  go_enter Tryz.func118, Tryz.ntmps118
  go_wp2_with fail
  have hb0 : Below w.heap.size w ((w.alloc (.cells #[.int .i64 0, .int .i64 0, .int .i64 0] 88)).alloc (.cells #[.int .i64 0, .int .i64 0, .int .i64 0] 88)) := (below_alloc _ _).alloc (by simp) _
  refine (rv_any c p _ (HS.out.below hb0)).mono ?_
  rintro e w1 ⟨rfl, h1, hf1⟩
  obtain ⟨q, hq⟩ : ∃ q, vR c.en c.T c.nm p = q := ⟨_, rfl⟩
  rw [hq] at HQ h1 ⊢
  obtain ⟨x, p1⟩ := q
  clear hq
  dsimp only at HQ h1 ⊢
  have HB0 : Hid (w1.heap[w.heap.size]? = some (.cells #[.int .i64 0, .int .i64 0, .int .i64 0] 88)) := (hf1.block _ (by simp; omega) (by show ¬ _ = _; omega)).trans ((Below.heap_alloc _ _ _ (by simp)).trans (heap_alloc_new w _))
  have hb1 : w1.heap[w.heap.size + 1]? = some (.cells #[.int .i64 0, .int .i64 0, .int .i64 0] 88) := (hf1.block _ (by simp) (by show ¬ _ = _; omega)).trans (by have := heap_alloc_new (w.alloc (.cells #[.int .i64 0, .int .i64 0, .int .i64 0] 88)) (.cells #[.int .i64 0, .int .i64 0, .int .i64 0] 88); rw [show (w.alloc (.cells #[.int .i64 0, .int .i64 0, .int .i64 0] 88)).heap.size = w.heap.size + 1 by simp] at this; exact this)
  have HF1 : Hid (Fr (XR9 c.R) w w1) := (Fr.below hb0).trans hf1
  have HS1 : Hid (RSt c p1 w1) := h1
  have z1 := frz9 hb1 0
  have HB1 : Hid ((w1.setCell ⟨w.heap.size + 1, 0, none⟩ (.int .i64 x)).heap[w.heap.size + 1]? = some (.cells #[.int .i64 x, .int .i64 0, .int .i64 0] 88)) := by
    show _ = _; rw [heap_setCell_same w1 _ 0 _ _ _ hb1]; rfl
  have HS1' : Hid (RSt c p1 (w1.setCell ⟨w.heap.size + 1, 0, none⟩ (.int .i64 x))) := HS1.out.set (by show w.heap.size + 1 ≠ _; omega) (by have := HNW.out.1; show _ ≤ w.heap.size + 1; omega) (by have := HNW.out.2; show _ ≤ w.heap.size + 1; omega) _
  have HF1' : Hid (Fr (XR9 c.R) w (w1.setCell ⟨w.heap.size + 1, 0, none⟩ (.int .i64 x))) := HF1.out.setNew (by show _ ≤ w.heap.size + 1; omega) _
  have HB0' : Hid ((w1.setCell ⟨w.heap.size + 1, 0, none⟩ (.int .i64 x)).heap[w.heap.size]? = some (.cells #[.int .i64 0, .int .i64 0, .int .i64 0] 88)) := (Below.heap_setCell _ _ _ _ (fun e => by have e2 : w.heap.size = w.heap.size + 1 := e; omega)).trans HB0.out
  obtain ⟨y1, hy1⟩ : ∃ y1, w1.setCell ⟨w.heap.size + 1, 0, none⟩ (.int .i64 x) = y1 := ⟨_, rfl⟩
  have HZ1 : Hid (w1.heap.size = y1.heap.size) := by show _ = _; rw [← hy1]; simp
  have HY1 : Hid (w1.setCell ⟨w.heap.size + 1, 0, none⟩ (.int .i64 x) = y1) := hy1
  rw [hy1] at HB1 HS1' HF1' HB0'
  have c0 : w1.cell? ⟨w.heap.size + 1, 0, none⟩ = some (.int .i64 0) := blk9 hb1 0 _ rfl
  clear hf1 hb1 h1 hy1 HB0 HF1 HS1 hb0
  go_wp2_with fail
  rw [HY1.out]
  clear z1 c0
  have hsz : w.heap.size ≤ y1.heap.size := HF1'.out.size
  have hlt1 : w.heap.size + 1 < y1.heap.size := (Array.getElem?_eq_some_iff.1 HB1.out).1
  have HSA : Hid (SArg (y1.alloc (.cells #[.string ⟨#[60, 61]⟩, .string ⟨#[62, 61]⟩, .string ⟨#[61, 61]⟩, .string ⟨#[33, 61]⟩] 9)) (.slice (some ⟨w1.heap.size, 0, none⟩) 4 4) opWL.tail) := strs9 y1 opWL.tail _ HZ1.out (by decide)
  refine (rword_any c p1 opWL.tail solid_ops _ _ ?_ HSA.out).mono ?_
  · exact HS1'.out.below (below_alloc _ _)
  rintro e w2 ⟨rfl, h2, hf2⟩
  have HWB : Hid (0 ≤ (wordR c.en c.T p1 opWL.tail 0).1 ∧ (wordR c.en c.T p1 opWL.tail 0).1 ≤ ((0 + opWL.tail.length : Nat) : Int)) := word_bound c.en c.T p1 opWL.tail 0
  obtain ⟨q, hq⟩ : ∃ q, wordR c.en c.T p1 opWL.tail 0 = q := ⟨_, rfl⟩
  rw [hq] at HQ h2 HWB ⊢
  obtain ⟨o, p2⟩ := q
  clear hq
  dsimp only at HQ h2 HWB ⊢
  have ho : 0 ≤ o ∧ o ≤ 4 := by have h := HWB.out; have e : opWL.tail.length = 4 := rfl; rw [e] at h; omega
  have hfy : Fr (XR9 c.R) y1 w2 := (Fr.below (below_alloc _ _)).trans hf2
  have HF2 : Hid (Fr (XR9 c.R) w w2) := HF1'.out.trans hfy
  have HB2 : Hid (w2.heap[w.heap.size]? = some (.cells #[.int .i64 0, .int .i64 0, .int .i64 0] 88)) := (hfy.block _ (by omega) (by show ¬ _ = _; omega)).trans HB0'.out
  have hb2 : w2.heap[w.heap.size + 1]? = some (.cells #[.int .i64 x, .int .i64 0, .int .i64 0] 88) := (hfy.block _ hlt1 (by show ¬ _ = _; omega)).trans HB1.out
  have HS2 : Hid (RSt c p2 w2) := h2
  have z2 := frz9 hb2 1
  have c2 : w2.cell? ⟨w.heap.size + 1, 1, none⟩ = some (.int .i64 0) := blk9 hb2 1 _ rfl
  have HC2 : Hid ((w2.setCell ⟨w.heap.size + 1, 1, none⟩ (.int .i64 (1 + o))).heap[w.heap.size + 1]? = some (.cells #[.int .i64 x, .int .i64 (1 + o), .int .i64 0] 88)) := by
    show _ = _; rw [heap_setCell_same w2 _ 1 _ _ _ hb2]; rfl
  have HS2' : Hid (RSt c p2 (w2.setCell ⟨w.heap.size + 1, 1, none⟩ (.int .i64 (1 + o)))) := HS2.out.set (by show w.heap.size + 1 ≠ _; omega) (by have := HNW.out.1; show _ ≤ w.heap.size + 1; omega) (by have := HNW.out.2; show _ ≤ w.heap.size + 1; omega) _
  have HF2' : Hid (Fr (XR9 c.R) w (w2.setCell ⟨w.heap.size + 1, 1, none⟩ (.int .i64 (1 + o)))) := HF2.out.setNew (by show _ ≤ w.heap.size + 1; omega) _
  have HB2' : Hid ((w2.setCell ⟨w.heap.size + 1, 1, none⟩ (.int .i64 (1 + o))).heap[w.heap.size]? = some (.cells #[.int .i64 0, .int .i64 0, .int .i64 0] 88)) := (Below.heap_setCell _ _ _ _ (fun e => by have e2 : w.heap.size = w.heap.size + 1 := e; omega)).trans HB2.out
  obtain ⟨y2, hy2⟩ : ∃ y2, w2.setCell ⟨w.heap.size + 1, 1, none⟩ (.int .i64 (1 + o)) = y2 := ⟨_, rfl⟩
  have HY2 : Hid (w2.setCell ⟨w.heap.size + 1, 1, none⟩ (.int .i64 (1 + o)) = y2) := hy2
  rw [hy2] at HC2 HS2' HF2' HB2'
  clear hf2 hfy hb2 h2 hy2 HB2 HF2 HS2 HB1 HS1' HF1' HB0' hlt1 hsz HY1
  go_wp2_with fail
  rw [HY2.out]
  clear z2 c2
  have hlt2 : w.heap.size + 1 < y2.heap.size := (Array.getElem?_eq_some_iff.1 HC2.out).1
  refine (rk_any c p2 _ HS2'.out).mono ?_
  rintro e w3 ⟨rfl, h3, hf3⟩
  obtain ⟨q, hq⟩ : ∃ q, kR c.en c.T p2 = q := ⟨_, rfl⟩
  rw [hq] at HQ h3 ⊢
  obtain ⟨n, p3⟩ := q
  clear hq
  dsimp only at HQ h3 ⊢
  have hb3 : w3.heap[w.heap.size + 1]? = some (.cells #[.int .i64 x, .int .i64 (1 + o), .int .i64 0] 88) := (hf3.block _ hlt2 (by show ¬ _ = _; omega)).trans HC2.out
  have hb4 : w3.heap[w.heap.size]? = some (.cells #[.int .i64 0, .int .i64 0, .int .i64 0] 88) := (hf3.block _ (by omega) (by show ¬ _ = _; omega)).trans HB2'.out
  have HF3 : Hid (Fr (XR9 c.R) w w3) := HF2'.out.trans hf3
  have HS3 : Hid (RSt c p3 w3) := h3
  have d0 : w3.cell? ⟨w.heap.size + 1, 0, none⟩ = some (.int .i64 x) := blk9 hb3 0 _ rfl
  have d1 : w3.cell? ⟨w.heap.size + 1, 1, none⟩ = some (.int .i64 (1 + o)) := blk9 hb3 1 _ rfl
  have d2 : w3.cell? ⟨w.heap.size + 1, 2, none⟩ = some (.int .i64 0) := blk9 hb3 2 _ rfl
  have y2z := frz9 hb3 2
  have r0 : w3.cell? ⟨w.heap.size, 0, none⟩ = some (.int .i64 0) := blk9 hb4 0 _ rfl
  have r1 : w3.cell? ⟨w.heap.size, 1, none⟩ = some (.int .i64 0) := blk9 hb4 1 _ rfl
  have r2 : w3.cell? ⟨w.heap.size, 2, none⟩ = some (.int .i64 0) := blk9 hb4 2 _ rfl
  have x0 := frz9 hb4 0
  have x1 := frz9 hb4 1
  have x2 := frz9 hb4 2
  have HLIT : Hid (Q = (⟨x, 1 + o, n⟩, p3)) := HQ.out
  clear h3 hf3 HC2 HS2' HF2' HB2' hlt2 HY2 HQ hb3 hb4
  go_wp2
  refine bodyPost_ret (by simp [results, Tryz.results118, go_sem, *]; try rfl) rfl ?_
  refine ⟨by rw [HLIT.out]; first | rfl | (unfold litA; rfl), ?_, ?_⟩
  · rw [HLIT.out]
    have hn := HNW.out
    repeat refine RSt.set ?_ (by simp only; omega) (by simp only; omega) (by simp only; omega) _
    exact HS3.out
  · repeat refine Fr.setNew ?_ (by simp only; omega) _
    exact HF3.out
end Go.Proofs.YtdjbejlbmaiocagGreatDoor
/-
  PLAIN: the reference's reader and the program's come to the same, part by part.
-/
namespace Go.Proofs.YtdjbejlbmaiocagGreatDoor

/-- How a step of the reference's stands to one of the program's: what is read is so related; the same tokens are left; the same is wrong, at the same place. -/
def RAgree {α β : Type} (en : Int) (T : List Tok) (R : α → β → Prop) (q : α × RP) (r : PR β) : Prop :=
  match r with
  | .ok y l => q.2.er = 0 ∧ T.drop q.2.k = l ∧ q.2.k ≤ T.length ∧ R q.1 y
  | .bad pl e => q.2.er = e ∧ e ≠ 0 ∧ (headT en (T.drop q.2.k)).place = pl ∧ q.2.k ≤ T.length
structure Same {α β : Type} (en : Int) (T : List Tok) (R : α → β → Prop) (f : RP → α × RP) (P : List Tok → PR β) : Prop where
  still : Still f
  same : ∀ p, p.er = 0 → p.k ≤ T.length → RAgree en T R (f p) (P (T.drop p.k))
theorem Same.bind {α β γ δ : Type} {en : Int} {T : List Tok} {R : α → β → Prop} {S : γ → δ → Prop} {f : RP → α × RP} {P : List Tok → PR β} {g : α → RP → γ × RP} {Q : β → List Tok → PR δ}
    (hf : Same en T R f P) (hs : ∀ x, Still (g x)) (hg : ∀ x y, R x y → ∀ p, p.er = 0 → p.k ≤ T.length → RAgree en T S (g x p) (Q y (T.drop p.k))) : Same en T S (fun p => g (f p).1 (f p).2) (fun l => (P l).bind Q) := by
  refine ⟨fun p hp => ?_, fun p hp hk => ?_⟩
  · show (g (f p).1 (f p).2).2 = p
    rw [hf.still p hp]; exact hs _ p hp
  · have h := hf.same p hp hk
    show RAgree en T S (g (f p).1 (f p).2) ((P (T.drop p.k)).bind Q)
    cases hq : P (T.drop p.k) with
    | ok y l =>
      rw [hq] at h
      obtain ⟨h1, h2, h3, h4⟩ := h
      have h5 := hg _ y h4 _ h1 h3
      rw [h2] at h5
      exact h5
    | bad pl e =>
      rw [hq] at h
      obtain ⟨h1, h2, h3, h4⟩ := h
      have h5 : (g (f p).1 (f p).2).2 = (f p).2 := hs _ _ (by rw [h1]; exact h2)
      show _ ∧ _ ∧ _ ∧ _
      rw [h5]
      exact ⟨h1, h2, h3, h4⟩
theorem Same.bindS {α β γ δ : Type} {en : Int} {T : List Tok} {R : α → β → Prop} {S : γ → δ → Prop} {f : RP → α × RP} {P : List Tok → PR β} {g : α → RP → γ × RP} {Q : β → List Tok → PR δ}
    (hf : Same en T R f P) (hs : ∀ x, Still (g x)) (hg : ∀ x y, R x y → Same en T S (g x) (Q y)) : Same en T S (fun p => g (f p).1 (f p).2) (fun l => (P l).bind Q) :=
  hf.bind hs fun x y hr => (hg x y hr).same
theorem Same.pure {α β : Type} {en : Int} {T : List Tok} {R : α → β → Prop} {x : α} {y : β} (h : R x y) : Same en T R (fun p => (x, p)) (fun l => .ok y l) :=
  ⟨fun _ _ => rfl, fun _ hp hk => ⟨hp, rfl, hk, h⟩⟩
/-- What a pass comes to. -/
theorem pass_agree {α β : Type} {en : Int} {T : List Tok} {R : α → β → Prop} (p : RP) (hp : p.er = 0) (hk : p.k ≤ T.length) (fits : Bool) (q : α × RP) (y : Tok → β)
    (h1 : fits = true → q.2 = stepR p ∧ p.k < T.length ∧ R q.1 (y (headT en (T.drop p.k)))) (h2 : fits = false → q.2 = wrongR 1 p) : RAgree en T R q ((passP en fits (T.drop p.k)).bind fun t r => .ok (y t) r) := by
  unfold passP
  cases fits
  · rw [if_neg (by simp)]
    have h := h2 rfl
    have e : wrongR 1 p = ⟨p.k, 1⟩ := by unfold wrongR; rw [if_pos hp]
    rw [e] at h
    show _ ∧ _ ∧ _ ∧ _
    rw [h]
    exact ⟨rfl, by omega, rfl, hk⟩
  · rw [if_pos rfl]
    obtain ⟨h3, h4, h5⟩ := h1 rfl
    show _ ∧ _ ∧ _ ∧ _
    rw [h3]
    refine ⟨hp, ?_, by show p.k + 1 ≤ _; omega, h5⟩
    show T.drop (p.k + 1) = _
    rw [List.tail_drop]
theorem tx_head (en : Int) (T : List Tok) (p : RP) (hp : p.er = 0) : txR en T p = (headT en (T.drop p.k)).text := by unfold txR; rw [if_pos hp]
theorem head_in (en : Int) (T : List Tok) (k : Nat) (h : (headT en (T.drop k)).text ≠ ByteArray.empty) : k < T.length := by
  apply Classical.byContradiction
  intro hn
  rw [List.drop_eq_nil_of_le (by omega)] at h
  exact h rfl
theorem need_same (en : Int) (T : List Tok) (s : ByteArray) (hs : (ByteArray.empty.toList == s.toList) = false) : Same en T (fun _ _ => True) (fun p => ((), needR en T s p)) (fun l => skipP en s l) := by
  refine ⟨fun p hp => need_still en T s p hp, fun p hp hk => ?_⟩
  have h := pass_agree (en := en) (T := T) (R := fun (_ : Unit) (_ : Tok) => True) p hp hk ((headT en (T.drop p.k)).text.toList == s.toList) ((), needR en T s p) id
    (fun hq => by
      refine ⟨?_, head_in en T p.k (fun he => by rw [he, hs] at hq; cases hq), trivial⟩
      show needR en T s p = _
      unfold needR
      rw [if_pos hp, tx_head en T p hp, if_pos hq])
    (fun hq => by
      show needR en T s p = _
      unfold needR
      rw [if_pos hp, tx_head en T p hp, hq, if_neg (by simp)])
  show RAgree en T _ _ (skipP en s (T.drop p.k))
  unfold skipP
  cases hq : passP en ((headT en (T.drop p.k)).text.toList == s.toList) (T.drop p.k) with
  | ok t r => rw [hq] at h; exact h
  | bad x e => rw [hq] at h; exact h
theorem word_idx (en : Int) (T : List Tok) (p : RP) (hp : p.er = 0) : ∀ (ws : List ByteArray) (j : Nat), wordR en T p ws j = if 0 ≤ idxA ws (txR en T p) j then (idxA ws (txR en T p) j, stepR p) else (0, wrongR 1 p)
  | [], j => by unfold wordR idxA; rw [if_neg (by omega)]
  | s :: r, j => by
    unfold wordR idxA
    by_cases h : ((txR en T p).toList == s.toList) = true
    · rw [if_pos ⟨hp, h⟩, h, if_pos rfl, if_pos (by omega)]
    · rw [if_neg (fun hq => h hq.2), if_neg h]
      exact word_idx en T p hp r (j + 1)
theorem idx_shift (n : ByteArray) : ∀ (ws : List ByteArray) (j : Nat), idxA ws n (j + 1) = if 0 ≤ idxA ws n j then idxA ws n j + 1 else -1
  | [], j => by unfold idxA; rfl
  | s :: r, j => by
    unfold idxA
    by_cases h : (n.toList == s.toList) = true
    · rw [if_pos h, if_pos h, if_pos (by omega)]; simp
    · rw [if_neg h, if_neg h]
      exact idx_shift n r (j + 1)
/-- Tokens as they are scanned. -/
def Solid (T : List Tok) : Prop := ∀ t ∈ T, t.kind ≠ 0 ∧ (t.text.toList == ByteArray.empty.toList) = false ∧ (t.kind = 2 ↔ dig0 t.text = true)
theorem head_mem (en : Int) (T : List Tok) (k : Nat) (h : k < T.length) : headT en (T.drop k) ∈ T := by
  rw [List.drop_eq_getElem_cons h]
  exact List.getElem_mem h
theorem head_none (en : Int) (T : List Tok) (k : Nat) (h : ¬ k < T.length) : headT en (T.drop k) = ⟨0, en, ByteArray.empty⟩ := by
  rw [List.drop_eq_nil_of_le (by omega)]; rfl
theorem word_still2 (en : Int) (T : List Tok) (ws : List ByteArray) (f : Int → Int) : Still (fun p => (f (wordR en T p ws 0).1, (wordR en T p ws 0).2)) := fun p hp => word_still en T p hp ws 0
theorem idx_empty (ws : List ByteArray) (h : ∀ s ∈ ws, (ByteArray.empty.toList == s.toList) = false) : ∀ j, idxA ws ByteArray.empty j = -1 := by
  induction ws with
  | nil => intro j; rfl
  | cons s r ih =>
    intro j
    unfold idxA
    rw [if_neg (by rw [h s (List.mem_cons_self ..)]; simp)]
    exact ih (fun t ht => h t (List.mem_cons_of_mem _ ht)) (j + 1)
theorem word_same (en : Int) (T : List Tok) (hT : Solid T) (ws : List ByteArray) (h : ∀ s ∈ ws, (ByteArray.empty.toList == s.toList) = false) : Same en T Eq (fun p => wordR en T p ws 0) (oneOfP en ws) := by
  refine ⟨fun p hp => word_still en T p hp ws 0, fun p hp hk => ?_⟩
  show RAgree en T Eq (wordR en T p ws 0) (oneOfP en ws (T.drop p.k))
  unfold oneOfP
  rw [word_idx en T p hp, tx_head en T p hp]
  by_cases hin : p.k < T.length
  · have h1 := hT _ (head_mem en T p.k hin)
    refine pass_agree (y := fun _ => idxA ws (headT en (T.drop p.k)).text 0) p hp hk _ _ (fun hq => ?_) (fun hq => ?_)
    · rw [Bool.and_eq_true, decide_eq_true_eq] at hq
      rw [if_pos hq.1]
      exact ⟨rfl, hin, rfl⟩
    · rw [show ((headT en (T.drop p.k)).kind != 0) = true by simpa using h1.1, Bool.and_true, decide_eq_false_iff_not] at hq
      rw [if_neg hq]
  · rw [head_none en T p.k hin]
    refine pass_agree (y := fun _ => idxA ws ByteArray.empty 0) p hp hk _ _ (fun hq => ?_) (fun hq => ?_)
    · simp at hq
    · rw [idx_empty ws h, if_neg (by omega)]
/-- Counted from one, with an empty word ahead. -/
theorem word1_same (en : Int) (T : List Tok) (hT : Solid T) (ws : List ByteArray) (h : ∀ s ∈ ws, (ByteArray.empty.toList == s.toList) = false) : Same en T Eq (fun p => (1 + (wordR en T p ws 0).1, (wordR en T p ws 0).2)) (oneOfP en (ByteArray.empty :: ws)) := by
  refine ⟨word_still2 en T ws (fun x => 1 + x), fun p hp hk => ?_⟩
  show RAgree en T Eq (1 + (wordR en T p ws 0).1, (wordR en T p ws 0).2) (oneOfP en (ByteArray.empty :: ws) (T.drop p.k))
  unfold oneOfP
  rw [word_idx en T p hp, tx_head en T p hp]
  by_cases hin : p.k < T.length
  · have h1 := hT _ (head_mem en T p.k hin)
    have e : idxA (ByteArray.empty :: ws) (headT en (T.drop p.k)).text 0 = if 0 ≤ idxA ws (headT en (T.drop p.k)).text 0 then idxA ws (headT en (T.drop p.k)).text 0 + 1 else -1 := by
      conv => lhs; unfold idxA
      rw [if_neg (by rw [h1.2.1]; simp)]
      exact idx_shift _ ws 0
    rw [e]
    refine pass_agree (y := fun _ => if 0 ≤ idxA ws (headT en (T.drop p.k)).text 0 then idxA ws (headT en (T.drop p.k)).text 0 + 1 else -1) p hp hk _ _ (fun hq => ?_) (fun hq => ?_)
    · rw [Bool.and_eq_true, decide_eq_true_eq] at hq
      by_cases h0 : 0 ≤ idxA ws (headT en (T.drop p.k)).text 0
      · rw [if_pos h0, if_pos h0]
        exact ⟨rfl, hin, by show 1 + _ = _; omega⟩
      · rw [if_neg h0] at hq; omega
    · rw [show ((headT en (T.drop p.k)).kind != 0) = true by simpa using h1.1, Bool.and_true, decide_eq_false_iff_not] at hq
      by_cases h0 : 0 ≤ idxA ws (headT en (T.drop p.k)).text 0
      · rw [if_pos h0] at hq; omega
      · rw [if_neg h0]
  · rw [head_none en T p.k hin]
    refine pass_agree (y := fun _ => idxA (ByteArray.empty :: ws) ByteArray.empty 0) p hp hk _ _ (fun hq => ?_) (fun hq => ?_)
    · simp at hq
    · rw [idx_empty ws h, if_neg (by omega)]
end Go.Proofs.YtdjbejlbmaiocagGreatDoor
/-
  PLAIN: the reference's reader and the program's: numbers, names, lists, literals.
-/
namespace Go.Proofs.YtdjbejlbmaiocagGreatDoor

theorem dig0_empty : dig0 ByteArray.empty = false := rfl
theorem kEnd_agree (en : Int) (T : List Tok) (hT : Solid T) (ng : Bool) (p : RP) (hp : p.er = 0) (hk : p.k ≤ T.length) :
    RAgree en T Eq (kEndR en T ng p) ((passP en (((headT en (T.drop p.k)).kind == 2) && !(ng && ((headT en (T.drop p.k)).text.toList == [48]))) (T.drop p.k)).bind fun t r => .ok ((if ng then -1 else 1) * digV t.text.data.toList) r) := by
  have hd : ((headT en (T.drop p.k)).kind == 2) = dig0 (headT en (T.drop p.k)).text := by
    by_cases hin : p.k < T.length
    · have h1 := (hT _ (head_mem en T p.k hin)).2.2
      cases hq : dig0 (headT en (T.drop p.k)).text
      · have : ¬ (headT en (T.drop p.k)).kind = 2 := fun h => by rw [h1.1 h] at hq; cases hq
        simpa using this
      · simpa using h1.2 hq
    · rw [head_none en T p.k hin]; rfl
  unfold kEndR noNumR
  rw [tx_head en T p hp, hd]
  refine pass_agree (y := fun t => (if ng then -1 else 1) * digV t.text.data.toList) p hp hk _ _ (fun hq => ?_) (fun hq => ?_)
  · rw [Bool.and_eq_true] at hq
    have h2 : (ng && ((headT en (T.drop p.k)).text.toList == [48])) = false := by
      cases hx : (ng && ((headT en (T.drop p.k)).text.toList == [48]))
      · rfl
      · rw [hx] at hq; exact absurd hq.2 (by simp)
    rw [if_neg (by rw [hq.1, h2]; simp)]
    refine ⟨rfl, ?_, rfl⟩
    apply Classical.byContradiction
    intro hn
    rw [head_none en T p.k hn] at hq
    exact absurd hq.1 (by rw [dig0_empty]; simp)
  · rw [if_pos (by
      cases h1 : dig0 (headT en (T.drop p.k)).text
      · rfl
      · rw [h1] at hq
        simpa using hq)]
theorem number_same (en : Int) (T : List Tok) (hT : Solid T) : Same en T Eq (kR en T) (numberP en) := by
  refine ⟨k_still en T, fun p hp hk => ?_⟩
  unfold kR numberP
  rw [tx_head en T p hp]
  by_cases h : ((headT en (T.drop p.k)).text.toList == [45]) = true
  · rw [if_pos h, if_pos h]
    exact ((need_same en T ⟨#[45]⟩ (by decide +kernel)).bind (S := Eq) (g := fun _ p => kEndR en T true p) (fun _ => kEnd_still en T true)
      (Q := fun _ l => (passP en (((headT en l).kind == 2) && (!((headT en l).text.toList == [48]))) l).bind fun t r => .ok (-1 * digV t.text.data.toList) r)
      (fun _ _ _ p hp hk => by have := kEnd_agree en T hT true p hp hk; simpa using this)).same p hp hk
  · rw [if_neg h, if_neg h]
    have := kEnd_agree en T hT false p hp hk
    simpa using this

def Apart (nm : List ByteArray) : Prop := nm.Pairwise fun a b => a.data.toList ≠ b.data.toList
/-- The same, if names differ. -/
def RD {α : Type} (D : Prop) (x y : α) : Prop := D → x = y
theorem Same.weak {α : Type} {en : Int} {T : List Tok} {f : RP → α × RP} {P : List Tok → PR α} (h : Same en T Eq f P) (D : Prop) : Same en T (RD D) f P :=
  ⟨h.still, fun p hp hk => by
    have h1 := h.same p hp hk
    cases hq : P (T.drop p.k) with
    | ok y l => rw [hq] at h1; exact ⟨h1.1, h1.2.1, h1.2.2.1, fun _ => h1.2.2.2⟩
    | bad pl e => rw [hq] at h1; exact h1⟩
theorem beq_data (a b : ByteArray) : (a.toList == b.toList) = true ↔ a.data.toList = b.data.toList := by
  rw [beq_iff_eq, ByteArray.toList_eq, ByteArray.toList_eq]
theorem nameAt_in (s : ByteArray) : ∀ nm : List ByteArray, (nameAt nm s).2 = true → ∃ n ∈ nm, n.data.toList = s.data.toList
  | [], h => by cases h
  | n :: r, h => by
    unfold nameAt at h
    by_cases h1 : (nameAt r s).2 = true
    · obtain ⟨m, hm, he⟩ := nameAt_in s r h1
      exact ⟨m, List.mem_cons_of_mem _ hm, he⟩
    · rw [if_neg h1] at h
      by_cases h2 : n.data.toList = s.data.toList
      · exact ⟨n, List.mem_cons_self .., h2⟩
      · rw [if_neg h2] at h; cases h
theorem vat_found (s : ByteArray) (p : RP) : ∀ (nm : List ByteArray) (i : Nat), ((nameAt nm s).2 = true → ∃ j : Nat, vAtR s p nm i = (((i + j : Nat) : Int), stepR p) ∧ (Apart nm → (nameAt nm s).1 = (j : Int))) ∧ ((nameAt nm s).2 = false → vAtR s p nm i = (0, wrongR 5 p))
  | [], i => ⟨(fun h => by cases h), (fun _ => by unfold vAtR; rfl)⟩
  | n :: r, i => by
    obtain ⟨ih1, ih2⟩ := vat_found s p r (i + 1)
    by_cases h : n.data.toList = s.data.toList
    · have hv : vAtR s p (n :: r) i = ((i : Int), stepR p) := by unfold vAtR; rw [if_pos ((beq_data n s).2 h)]
      refine ⟨fun _ => ⟨0, by rw [hv]; rfl, fun hA => ?_⟩, fun hf => ?_⟩
      · have hno : (nameAt r s).2 = false := by
          cases hq : (nameAt r s).2
          · rfl
          · obtain ⟨m, hm, he⟩ := nameAt_in s r hq
            exact absurd (h.trans he.symm) ((List.pairwise_cons.1 hA).1 m hm)
        unfold nameAt
        rw [hno, if_neg (by simp), if_pos h]
        rfl
      · unfold nameAt at hf
        cases hq : (nameAt r s).2 <;> simp [hq, h] at hf
    · have hv : vAtR s p (n :: r) i = vAtR s p r (i + 1) := by
        conv => lhs; unfold vAtR
        rw [if_neg (fun hq => h ((beq_data n s).1 hq))]
      have hn : nameAt (n :: r) s = if (nameAt r s).2 then ((nameAt r s).1 + 1, true) else (0, false) := by
        conv => lhs; unfold nameAt
        rw [if_neg h]
      rw [hv, hn]
      cases hq : (nameAt r s).2
      · refine ⟨fun hf => by simp at hf, fun _ => ih2 hq⟩
      · obtain ⟨j, hj1, hj2⟩ := ih1 hq
        refine ⟨fun _ => ⟨j + 1, by rw [hj1]; congr 2; omega, fun hA => ?_⟩, fun hf => by simp at hf⟩
        have := hj2 (List.pairwise_cons.1 hA).2
        simp only [if_true]
        rw [this]; simp
theorem name_eq (s : ByteArray) : nameB s = isNameB s := by
  have h1 : ∀ m, checkM ⟨[⟨s, 0, 0⟩], [], 0, 0⟩ = m → nameB s = (m == 0) := fun m h => by unfold nameB; rw [h]
  cases hq : isNameB s
  · refine (h1 1 ?_).trans rfl
    have h2 : varE [] ⟨s, 0, 0⟩ = 1 := by unfold varE; rw [hq]; rfl
    have h3 : varsE [⟨s, 0, 0⟩] = 1 := by show firstE [varE [] ⟨s, 0, 0⟩] = 1; rw [h2]; rfl
    unfold checkM
    simp [h3]
  · refine (h1 0 ?_).trans rfl
    have h2 : varE [] ⟨s, 0, 0⟩ = 0 := by
      unfold varE
      rw [if_pos hq, if_neg (by simp), if_pos (by simp [inB]), if_neg (by simp)]
    have h3 : varsE [⟨s, 0, 0⟩] = 0 := by show firstE [varE [] ⟨s, 0, 0⟩] = 0; rw [h2]; rfl
    unfold checkM
    simp [h3]
    try rfl
theorem name_same (en : Int) (T : List Tok) (nm : List ByteArray) (hn : ∀ n ∈ nm, ∀ s : ByteArray, n.data.toList = s.data.toList → isNameB s = true) : Same en T (RD (Apart nm)) (vR en T nm) (nameP en nm) := by
  refine ⟨v_still en T nm, fun p hp hk => ?_⟩
  unfold vR nameP
  rw [tx_head en T p hp, name_eq]
  obtain ⟨f1, f2⟩ := vat_found (headT en (T.drop p.k)).text p nm 0
  cases hq : (nameAt nm (headT en (T.drop p.k)).text).2
  · rw [f2 hq]
    cases hb : isNameB (headT en (T.drop p.k)).text
    · simp only [Bool.false_eq_true, if_false]
      have e : wrongR 1 p = ⟨p.k, 1⟩ := by unfold wrongR; rw [if_pos hp]
      rw [e]
      exact ⟨rfl, by omega, rfl, hk⟩
    · simp only [Bool.false_eq_true, if_false, if_true]
      have e : wrongR 5 p = ⟨p.k, 5⟩ := by unfold wrongR; rw [if_pos hp]
      rw [e]
      exact ⟨rfl, by omega, rfl, hk⟩
  · obtain ⟨n, hm, he⟩ := nameAt_in _ nm hq
    have hb := hn n hm _ he
    rw [if_pos rfl, hb, if_pos rfl]
    obtain ⟨j, hj1, hj2⟩ := f1 hq
    rw [hj1]
    refine pass_agree (y := fun _ => (nameAt nm (headT en (T.drop p.k)).text).1) p hp hk true _ (fun _ => ⟨rfl, head_in en T p.k (fun h0 => by rw [h0, namex_empty] at hb; cases hb), fun hA => ?_⟩) (fun h => by cases h)
    rw [hj2 hA]
    simp
end Go.Proofs.YtdjbejlbmaiocagGreatDoor
/-
  PLAIN: the reference's reader and the program's: lists, literals.
-/
namespace Go.Proofs.YtdjbejlbmaiocagGreatDoor

theorem still_er {α : Type} {f : RP → α × RP} (h : Still f) (p : RP) (hp : p.er ≠ 0) : (f p).2 = p := h p hp
theorem s44 : (ByteArray.empty.toList == (⟨#[44]⟩ : ByteArray).toList) = false := by decide +kernel
theorem s93 : (ByteArray.empty.toList == (⟨#[93]⟩ : ByteArray).toList) = false := by decide +kernel
theorem s91 : (ByteArray.empty.toList == (⟨#[91]⟩ : ByteArray).toList) = false := by decide +kernel
theorem t44 : (⟨#[44]⟩ : ByteArray).toList = [44] := by rw [ByteArray.toList_eq]
theorem t93 : (⟨#[93]⟩ : ByteArray).toList = [93] := by rw [ByteArray.toList_eq]
theorem loop_false {α : Type} (en : Int) (T : List Tok) (item : RP → α × RP) (f : Nat) (acc : List α) (p : RP) : loopR en T item f acc (false, p) = (acc, p) := by
  cases f <;> (unfold loopR; rfl)
theorem loop_true {α : Type} (en : Int) (T : List Tok) (item : RP → α × RP) (f : Nat) (acc : List α) (p : RP) : loopR en T item (f + 1) acc (true, p) = loopR en T item f (acc ++ [(item p).1]) (more2R en T (item p).2) := by
  conv => lhs; unfold loopR
  rfl
theorem loop_same {α : Type} {en : Int} {T : List Tok} {D : Prop} {f : RP → α × RP} {P : List Tok → PR α} (hf : Same en T (RD D) f P) (hE : Eats P) :
    ∀ (n : Nat) (p : RP) (acc acc' : List α) (fu gu : Nat), p.er = 0 → p.k ≤ T.length → (T.drop p.k).length ≤ n → n + 1 ≤ fu → n + 1 ≤ gu → (D → acc = acc') →
      RAgree en T (RD D) (loopR en T f fu acc (more2R en T p)) (moreP en P gu acc' (T.drop p.k)) := by
  intro n
  induction n with
  | zero =>
    intro p acc acc' fu gu hp hk hl hfu hgu ha
    obtain ⟨g, rfl⟩ : ∃ g, gu = g + 1 := ⟨gu - 1, by omega⟩
    have h0 : T.drop p.k = [] := List.eq_nil_of_length_eq_zero (by omega)
    unfold more2R moreP
    rw [tx_head en T p hp, h0]
    have e : ((headT en []).text.toList == [44]) = false := by show (ByteArray.empty.toList == [44]) = false; decide +kernel
    rw [e, if_neg (by simp), if_neg (by simp), loop_false]
    have h := (need_same en T ⟨#[93]⟩ s93).bind (S := RD D) (g := fun _ p => (acc, p)) (Q := fun _ l => .ok acc' l) (fun _ _ _ => rfl) (fun _ _ _ p hp hk => ⟨hp, rfl, hk, ha⟩)
    have := h.same p hp hk
    rw [h0] at this
    exact this
  | succ n ih =>
    intro p acc acc' fu gu hp hk hl hfu hgu ha
    obtain ⟨g, rfl⟩ : ∃ g, gu = g + 1 := ⟨gu - 1, by omega⟩
    obtain ⟨f0, rfl⟩ : ∃ f0, fu = f0 + 1 := ⟨fu - 1, by omega⟩
    unfold more2R moreP
    rw [tx_head en T p hp]
    cases hq : ((headT en (T.drop p.k)).text.toList == [44])
    · rw [if_neg (by simp), if_neg (by simp), loop_false]
      have h := (need_same en T ⟨#[93]⟩ s93).bind (S := RD D) (g := fun _ p => (acc, p)) (Q := fun _ l => .ok acc' l) (fun _ _ _ => rfl) (fun _ _ _ p hp hk => ⟨hp, rfl, hk, ha⟩)
      exact h.same p hp hk
    · rw [if_pos rfl, if_pos rfl, loop_true]
      have h1 := (need_same en T ⟨#[44]⟩ s44).same p hp hk
      have hin : p.k < T.length := head_in en T p.k (fun he => by rw [he] at hq; revert hq; decide +kernel)
      have hsk : skipP en ⟨#[44]⟩ (T.drop p.k) = .ok (headT en (T.drop p.k)) (T.drop p.k).tail := by unfold skipP passP; rw [t44, hq, if_pos rfl]
      rw [hsk] at h1 ⊢
      obtain ⟨a1, a2, a3, _⟩ := h1
      dsimp only at a1 a2 a3
      show RAgree en T (RD D) _ ((P (T.drop p.k).tail).bind _)
      rw [← a2]
      have hlen : (T.drop (needR en T ⟨#[44]⟩ p).k).length ≤ n := by rw [a2, List.length_tail]; omega
      have h2 := hf.same _ a1 a3
      cases hP : P (T.drop (needR en T ⟨#[44]⟩ p).k) with
      | ok x l =>
        rw [hP] at h2
        obtain ⟨b1, b2, b3, b4⟩ := h2
        have hl2 := hE _ x l hP
        have := ih (f (needR en T ⟨#[44]⟩ p)).2 (acc ++ [(f (needR en T ⟨#[44]⟩ p)).1]) (acc' ++ [x]) f0 g b1 b3 (by rw [b2]; omega) (by omega) (by omega) (fun hD => by rw [ha hD, b4 hD])
        rw [b2] at this
        exact this
      | bad pl e =>
        rw [hP] at h2
        obtain ⟨b1, b2, b3, b4⟩ := h2
        rw [more2_still en T _ (by rw [b1]; exact b2), loop_false]
        exact ⟨b1, b2, b3, b4⟩
theorem list_same {α : Type} {en : Int} {T : List Tok} {D : Prop} {f : RP → α × RP} {P : List Tok → PR α} (hf : Same en T (RD D) f P) (hE : Eats P) : Same en T (RD D) (listR en T f) (readP en P) := by
  refine ⟨list_still en T f, fun p hp hk => ?_⟩
  unfold listR more1R readP
  have h1 := (need_same en T ⟨#[91]⟩ s91).same p hp hk
  obtain ⟨p1, hp1⟩ : ∃ p1, needR en T ⟨#[91]⟩ p = p1 := ⟨_, rfl⟩
  rw [hp1] at h1 ⊢
  cases hs : skipP en ⟨#[91]⟩ (T.drop p.k) with
  | bad pl e =>
    rw [hs] at h1
    obtain ⟨b1, b2, b3, b4⟩ := h1
    have hne : p1.er ≠ 0 := by rw [b1]; exact b2
    rw [tx_still en T p1 hne, if_neg (by decide +kernel), decide_eq_false hne, loop_false]
    exact ⟨b1, b2, b3, b4⟩
  | ok t l =>
    rw [hs] at h1
    obtain ⟨a1, a2, a3, _⟩ := h1
    show RAgree en T (RD D) _ (if _ then _ else _)
    rw [← a2, tx_head en T p1 a1]
    cases hq : ((headT en (T.drop p1.k)).text.toList == [93])
    · rw [if_neg (by simp), if_neg (by simp), decide_eq_true a1, loop_true]
      have h2 := hf.same p1 a1 a3
      cases hP : P (T.drop p1.k) with
      | ok x l2 =>
        rw [hP] at h2
        obtain ⟨b1, b2, b3, b4⟩ := h2
        have := loop_same hf hE l2.length (f p1).2 ([] ++ [(f p1).1]) [x] (T.length + 1) (l2.length + 1) b1 b3 (by rw [b2]; exact Nat.le_refl _) (by rw [← b2, List.length_drop]; omega) (Nat.le_refl _) (fun hD => by rw [b4 hD]; rfl)
        rw [b2] at this
        exact this
      | bad pl e =>
        rw [hP] at h2
        obtain ⟨b1, b2, b3, b4⟩ := h2
        rw [more2_still en T _ (by rw [b1]; exact b2), loop_false]
        exact ⟨b1, b2, b3, b4⟩
    · rw [if_pos rfl, if_pos rfl, loop_false]
      have h := (need_same en T ⟨#[93]⟩ s93).bind (S := RD D) (g := fun _ p => (([] : List α), p)) (Q := fun _ l => .ok [] l) (fun _ _ _ => rfl) (fun _ _ _ p hp hk => ⟨hp, rfl, hk, fun _ => rfl⟩)
      exact h.same p1 a1 a3
theorem ops_solid : ∀ s ∈ opWL.tail, (ByteArray.empty.toList == s.toList) = false := by
  intro s hs
  simp only [opWL, List.tail_cons, List.mem_cons, List.not_mem_nil, or_false] at hs
  rcases hs with rfl | rfl | rfl | rfl <;> decide +kernel
theorem lit_same (en : Int) (T : List Tok) (hT : Solid T) (nm : List ByteArray) (hn : ∀ n ∈ nm, ∀ s : ByteArray, n.data.toList = s.data.toList → isNameB s = true) : Same en T (RD (Apart nm)) (litR en T nm) (litP en nm) := by
  have hw : Same en T Eq (fun p => (1 + (wordR en T p opWL.tail 0).1, (wordR en T p opWL.tail 0).2)) (oneOfP en opWL) := word1_same en T hT opWL.tail ops_solid
  have h3 : ∀ (v v' o : Int), RD (Apart nm) v v' → Same en T (RD (Apart nm)) (fun p => ((⟨v, o, (kR en T p).1⟩ : MLit), (kR en T p).2)) (fun l => (numberP en l).bind fun n l => .ok (⟨v', o, n⟩ : MLit) l) := fun v v' o hv =>
    (number_same en T hT).bind (S := RD (Apart nm)) (g := fun n p => ((⟨v, o, n⟩ : MLit), p)) (Q := fun n l => .ok (⟨v', o, n⟩ : MLit) l) (fun _ _ _ => rfl) (fun x y hxy p hp hk => ⟨hp, rfl, hk, fun hD => by rw [hv hD, hxy]⟩)
  have h2 : ∀ (v v' : Int), RD (Apart nm) v v' → Same en T (RD (Apart nm)) (fun p => ((⟨v, 1 + (wordR en T p opWL.tail 0).1, (kR en T (wordR en T p opWL.tail 0).2).1⟩ : MLit), (kR en T (wordR en T p opWL.tail 0).2).2)) (fun l => (oneOfP en opWL l).bind fun op l => (numberP en l).bind fun n l => .ok (⟨v', op, n⟩ : MLit) l) := fun v v' hv =>
    hw.bindS (S := RD (Apart nm)) (g := fun o p => ((⟨v, o, (kR en T p).1⟩ : MLit), (kR en T p).2)) (Q := fun o l => (numberP en l).bind fun n l => .ok (⟨v', o, n⟩ : MLit) l) (fun o p hp => k_still en T p hp) (fun x y hxy => by rw [hxy]; exact h3 v v' y hv)
  exact (name_same en T nm hn).bindS (S := RD (Apart nm)) (g := fun v p => ((⟨v, 1 + (wordR en T p opWL.tail 0).1, (kR en T (wordR en T p opWL.tail 0).2).1⟩ : MLit), (kR en T (wordR en T p opWL.tail 0).2).2))
    (Q := fun v l => (oneOfP en opWL l).bind fun op l => (numberP en l).bind fun n l => .ok (⟨v, op, n⟩ : MLit) l) (fun v p hp => by show (kR en T (wordR en T p opWL.tail 0).2).2 = p; rw [word_still en T p hp]; exact k_still en T p hp) h2
end Go.Proofs.YtdjbejlbmaiocagGreatDoor
/-
  PLAIN: the reference's reader and the program's: constraints.
-/
namespace Go.Proofs.YtdjbejlbmaiocagGreatDoor

def bodyR (en : Int) (T : List Tok) (nm : List ByteArray) (k : Int) (p : RP) : MCon × RP :=
  if k = 1 ∨ k = 2 ∨ k = 3 then
    (⟨k, (listR en T (vR en T nm) (listR en T (kR en T) p).2).1, (listR en T (kR en T) p).1, (kR en T (listR en T (vR en T nm) (listR en T (kR en T) p).2).2).1, [], []⟩, (kR en T (listR en T (vR en T nm) (listR en T (kR en T) p).2).2).2)
  else if k = 4 then (⟨k, (listR en T (vR en T nm) p).1, [], 0, [], []⟩, (listR en T (vR en T nm) p).2)
  else if k = 5 then (⟨k, [(vR en T nm (listR en T (kR en T) p).2).1, (vR en T nm (vR en T nm (listR en T (kR en T) p).2).2).1], (listR en T (kR en T) p).1, 0, [], []⟩, (vR en T nm (vR en T nm (listR en T (kR en T) p).2).2).2)
  else if k = 6 then (⟨k, (listR en T (vR en T nm) p).1, [], 0, (listR en T (listR en T (kR en T)) (listR en T (vR en T nm) p).2).1, []⟩, (listR en T (listR en T (kR en T)) (listR en T (vR en T nm) p).2).2)
  else if k = 7 then (⟨k, [(vR en T nm p).1, (vR en T nm (vR en T nm p).2).1, (vR en T nm (vR en T nm (vR en T nm p).2).2).1], [], 0, [], []⟩, (vR en T nm (vR en T nm (vR en T nm p).2).2).2)
  else if k = 8 then (⟨k, [(vR en T nm p).1] ++ (listR en T (vR en T nm) (vR en T nm p).2).1, [], 0, [], []⟩, (listR en T (vR en T nm) (vR en T nm p).2).2)
  else if k = 9 then (⟨k, [], [], 0, [], (listR en T (litR en T nm) p).1⟩, (listR en T (litR en T nm) p).2)
  else if k = 10 then (⟨k, [(vR en T nm p).1], [], 0, [], [(litR en T nm (vR en T nm p).2).1]⟩, (litR en T nm (vR en T nm p).2).2)
  else (⟨k, [], [], 0, [], []⟩, p)
section
variable {en : Int} {T : List Tok} {D : Prop}
/-- One thing, then what is made of it. -/
theorem end1 {α γ : Type} {f : RP → α × RP} {P : List Tok → PR α} (hf : Same en T (RD D) f P) (m m' : α → γ) (hm : ∀ x, D → m x = m' x) : Same en T (RD D) (fun p => (m (f p).1, (f p).2)) (fun l => (P l).bind fun x l => .ok (m' x) l) :=
  hf.bind (g := fun x p => (m x, p)) (Q := fun x l => .ok (m' x) l) (fun _ _ _ => rfl) (fun x y hxy p hp hk => ⟨hp, rfl, hk, fun hD => by rw [hm x hD, hxy hD]⟩)
theorem end2 {α β γ : Type} {f : RP → α × RP} {P : List Tok → PR α} {g : RP → β × RP} {Q : List Tok → PR β} (hf : Same en T (RD D) f P) (hg : Same en T (RD D) g Q) (m m' : α → β → γ) (hm : ∀ x y, D → m x y = m' x y) :
    Same en T (RD D) (fun p => (m (f p).1 (g (f p).2).1, (g (f p).2).2)) (fun l => (P l).bind fun x l => (Q l).bind fun y l => .ok (m' x y) l) :=
  hf.bindS (g := fun x p => (m x (g p).1, (g p).2)) (Q := fun x l => (Q l).bind fun y l => .ok (m' x y) l) (fun x p hp => hg.still p hp) (fun x x' hx => end1 hg (m x) (m' x') (fun y hD => by rw [hx hD]; exact hm x' y hD))
theorem end3 {α β δ γ : Type} {f : RP → α × RP} {P : List Tok → PR α} {g : RP → β × RP} {Q : List Tok → PR β} {h : RP → δ × RP} {O : List Tok → PR δ} (hf : Same en T (RD D) f P) (hg : Same en T (RD D) g Q) (hh : Same en T (RD D) h O) (m m' : α → β → δ → γ) (hm : ∀ x y z, D → m x y z = m' x y z) :
    Same en T (RD D) (fun p => (m (f p).1 (g (f p).2).1 (h (g (f p).2).2).1, (h (g (f p).2).2).2)) (fun l => (P l).bind fun x l => (Q l).bind fun y l => (O l).bind fun z l => .ok (m' x y z) l) :=
  hf.bindS (g := fun x p => (m x (g p).1 (h (g p).2).1, (h (g p).2).2)) (Q := fun x l => (Q l).bind fun y l => (O l).bind fun z l => .ok (m' x y z) l)
    (fun x p hp => by show (h (g p).2).2 = p; rw [hg.still p hp]; exact hh.still p hp) (fun x x' hx => end2 hg hh (m x) (m' x') (fun y z hD => by rw [hx hD]; exact hm x' y z hD))
end
theorem body_same (en : Int) (T : List Tok) (hT : Solid T) (nm : List ByteArray) (hn : ∀ n ∈ nm, ∀ s : ByteArray, n.data.toList = s.data.toList → isNameB s = true) (k : Int) : Same en T (RD (Apart nm)) (bodyR en T nm k) (bodyP en nm k) := by
  have hK := (number_same en T hT).weak (Apart nm)
  have hV := name_same en T nm hn
  have hKs := list_same hK (eats_number en)
  have hVs := list_same hV (eats_name en nm)
  have hRs := list_same hKs (eats_read en _ (eats_number en))
  have hL := lit_same en T hT nm hn
  have hLs := list_same hL (eats_lit en nm)
  unfold bodyR bodyP
  by_cases h1 : k = 1 ∨ k = 2 ∨ k = 3
  · simp only [if_pos h1]
    exact end3 hKs hVs hK (fun cs vs n => (⟨k, vs, cs, n, [], []⟩ : MCon)) _ (fun _ _ _ _ => rfl)
  simp only [if_neg h1]
  by_cases h4 : k = 4
  · simp only [if_pos h4]
    exact end1 hVs (fun vs => (⟨k, vs, [], 0, [], []⟩ : MCon)) _ (fun _ _ => rfl)
  simp only [if_neg h4]
  by_cases h5 : k = 5
  · simp only [if_pos h5]
    exact end3 hKs hV hV (fun cs a b => (⟨k, [a, b], cs, 0, [], []⟩ : MCon)) _ (fun _ _ _ _ => rfl)
  simp only [if_neg h5]
  by_cases h6 : k = 6
  · simp only [if_pos h6]
    exact end2 hVs hRs (fun vs rs => (⟨k, vs, [], 0, rs, []⟩ : MCon)) _ (fun _ _ _ => rfl)
  simp only [if_neg h6]
  by_cases h7 : k = 7
  · simp only [if_pos h7]
    exact end3 hV hV hV (fun a b c => (⟨k, [a, b, c], [], 0, [], []⟩ : MCon)) _ (fun _ _ _ _ => rfl)
  simp only [if_neg h7]
  by_cases h8 : k = 8
  · simp only [if_pos h8]
    exact end2 hV hVs (fun a vs => (⟨k, [a] ++ vs, [], 0, [], []⟩ : MCon)) _ (fun _ _ _ => rfl)
  simp only [if_neg h8]
  by_cases h9 : k = 9
  · simp only [if_pos h9]
    exact end1 hLs (fun ls => (⟨k, [], [], 0, [], ls⟩ : MCon)) _ (fun _ _ => rfl)
  simp only [if_neg h9]
  by_cases h10 : k = 10
  · simp only [if_pos h10]
    exact end2 hV hL (fun a t => (⟨k, [a], [], 0, [], [t]⟩ : MCon)) _ (fun _ _ _ => rfl)
  simp only [if_neg h10]
  exact Same.pure (fun _ => rfl)
def conR (en : Int) (T : List Tok) (nm : List ByteArray) (p : RP) : MCon × RP := bodyR en T nm (1 + (wordR en T p conWL.tail 0).1) (wordR en T p conWL.tail 0).2
theorem cons_solid : ∀ s ∈ conWL.tail, (ByteArray.empty.toList == s.toList) = false := by
  intro s hs
  simp only [conWL, List.tail_cons, List.mem_cons, List.not_mem_nil, or_false] at hs
  rcases hs with rfl | rfl | rfl | rfl | rfl | rfl | rfl | rfl | rfl | rfl <;> decide +kernel
theorem con_same (en : Int) (T : List Tok) (hT : Solid T) (nm : List ByteArray) (hn : ∀ n ∈ nm, ∀ s : ByteArray, n.data.toList = s.data.toList → isNameB s = true) : Same en T (RD (Apart nm)) (conR en T nm) (fun l => (oneOfP en conWL l).bind fun k l => bodyP en nm k l) :=
  (word1_same en T hT conWL.tail cons_solid).bindS (g := fun k p => bodyR en T nm k p) (Q := fun k l => bodyP en nm k l) (fun k => (body_same en T hT nm hn k).still) (fun x y hxy => by rw [hxy]; exact body_same en T hT nm hn y)
end Go.Proofs.YtdjbejlbmaiocagGreatDoor
/-
  A constraint that the reference reads, in memory.
-/
namespace Go.Proofs.YtdjbejlbmaiocagGreatDoor
open Go.RowKit

/-- What is so while the reference reads a constraint. -/
structure ConT (c : RC) (w0 w : World) (p : RP) (vv vc vr vl : Value) (k : MCon) : Prop where
  st : RSt c p w
  fr : Fr (XR9 c.R) w0 w
  res : w.heap[w0.heap.size]? = some (.cells #[.int .i64 0, .slice none 0 0, .slice none 0 0, .int .i64 0, .slice none 0 0, .slice none 0 0] 73)
  con : w.heap[w0.heap.size + 1]? = some (.cells #[.int .i64 k.kind, vv, vc, .int .i64 k.n, vr, vl] 73)
  Rw : c.R < w0.heap.size
  Nw : c.N ≤ w0.heap.size
  NBw : c.NB ≤ w0.heap.size
  own : ConR w0.heap.size w vv vc vr vl k
section
variable {c : RC} {w0 w w' : World} {p p' : RP} {vv vc vr vl : Value} {k : MCon}
theorem ConT.call (h : ConT c w0 w p vv vc vr vl k) (hf : Fr (XR9 c.R) w w') (hst : RSt c p' w') : ConT c w0 w' p' vv vc vr vl k where
  st := hst
  fr := h.fr.trans hf
  res := (hf.block _ (Array.getElem?_eq_some_iff.1 h.res).1 (by have := h.Rw; show ¬ _ = _; omega)).trans h.res
  con := (hf.block _ (Array.getElem?_eq_some_iff.1 h.con).1 (by have := h.Rw; show ¬ _ = _; omega)).trans h.con
  Rw := h.Rw
  Nw := h.Nw
  NBw := h.NBw
  own := h.own.fr hf (fun j hj => by have h1 : j = c.R := hj; rw [h1]; exact h.Rw)
theorem ConT.below (h : ConT c w0 w p vv vc vr vl k) (hb : Below w.heap.size w w') : ConT c w0 w' p vv vc vr vl k := h.call (Fr.below hb) (h.st.below hb)
theorem ConT.base (h : ConT c w0 w p vv vc vr vl k) : w0.heap.size ≤ w.heap.size := h.fr.size
theorem ConT.put (h : ConT c w0 w p vv vc vr vl k) (i : Nat) (u : Value) (vv' vc' vr' vl' : Value) (k' : MCon) (hcs : (#[.int .i64 k.kind, vv, vc, .int .i64 k.n, vr, vl] : Array Value).setIfInBounds i u = #[.int .i64 k'.kind, vv', vc', .int .i64 k'.n, vr', vl'])
    (ho : ConR w0.heap.size w vv' vc' vr' vl' k') : ConT c w0 (w.setCell ⟨w0.heap.size + 1, i, none⟩ u) p vv' vc' vr' vl' k' where
  st := h.st.set (q := ⟨w0.heap.size + 1, i, none⟩) (by have := h.Rw; show w0.heap.size + 1 ≠ c.R; omega) (by have := h.Nw; show c.N ≤ w0.heap.size + 1; omega) (by have := h.NBw; show c.NB ≤ w0.heap.size + 1; omega) u
  fr := h.fr.setNew (p := ⟨w0.heap.size + 1, i, none⟩) (by show w0.heap.size ≤ w0.heap.size + 1; omega) u
  res := (Below.heap_setCell _ _ _ _ (by show w0.heap.size ≠ w0.heap.size + 1; omega)).trans h.res
  con := by rw [heap_setCell_same w _ i _ _ _ h.con, hcs]
  Rw := h.Rw
  Nw := h.Nw
  NBw := h.NBw
  own := ho.set h.con i u
theorem ConT.kind (h : ConT c w0 w p vv vc vr vl k) (n : Int) : ConT c w0 (w.setCell ⟨w0.heap.size + 1, 0, none⟩ (.int .i64 n)) p vv vc vr vl { k with kind := n } :=
  h.put 0 _ vv vc vr vl { k with kind := n } rfl h.own
theorem ConT.vars (h : ConT c w0 w p vv vc vr vl k) {v : Value} {xs : List Int} (ho : w.ownsRow w0.heap.size 3 1 v xs.length (xs.map (Value.int .i64))) : ConT c w0 (w.setCell ⟨w0.heap.size + 1, 1, none⟩ v) p v vc vr vl { k with vars := xs } :=
  h.put 1 v v vc vr vl { k with vars := xs } rfl ⟨ho, h.own.2.1, h.own.2.2.1, h.own.2.2.2⟩
theorem ConT.consts (h : ConT c w0 w p vv vc vr vl k) {v : Value} {xs : List Int} (ho : w.ownsRow w0.heap.size 3 1 v xs.length (xs.map (Value.int .i64))) : ConT c w0 (w.setCell ⟨w0.heap.size + 1, 2, none⟩ v) p vv v vr vl { k with consts := xs } :=
  h.put 2 v vv v vr vl { k with consts := xs } rfl ⟨h.own.1, ho, h.own.2.2.1, h.own.2.2.2⟩
theorem ConT.n (h : ConT c w0 w p vv vc vr vl k) (n : Int) : ConT c w0 (w.setCell ⟨w0.heap.size + 1, 3, none⟩ (.int .i64 n)) p vv vc vr vl { k with n := n } :=
  h.put 3 _ vv vc vr vl { k with n := n } rfl h.own
theorem ConT.rows (h : ConT c w0 w p vv vc vr vl k) {v : Value} {xs : List (List Int)} (ho : LSr w0.heap.size w0.heap.size w v xs) : ConT c w0 (w.setCell ⟨w0.heap.size + 1, 4, none⟩ v) p vv vc v vl { k with rows := xs } :=
  h.put 4 v vv vc v vl { k with rows := xs } rfl ⟨h.own.1, h.own.2.1, ho, h.own.2.2.2⟩
theorem ConT.lits (h : ConT c w0 w p vv vc vr vl k) {v : Value} {xs : List MLit} (ho : w.ownsRow w0.heap.size 88 3 v xs.length (xs.flatMap litC)) : ConT c w0 (w.setCell ⟨w0.heap.size + 1, 5, none⟩ v) p vv vc vr v { k with lits := xs } :=
  h.put 5 v vv vc vr v { k with lits := xs } rfl ⟨h.own.1, h.own.2.1, h.own.2.2.1, ho⟩
theorem ConT.varsLit (h : ConT c w0 w p vv vc vr vl k) (xs : List Int) (hx : xs.length ≤ 100) : ConT c w0 ((w.setCell ⟨w0.heap.size + 1, 1, none⟩ (.slice (some ⟨w.heap.size, 0, none⟩) xs.length xs.length)).alloc (.cells (xs.map (Value.int .i64)).toArray 3)) p (.slice (some ⟨w.heap.size, 0, none⟩) xs.length xs.length) vc vr vl { k with vars := xs } := by
  rw [← World.setCell_alloc_past _ _ _ _ (Array.getElem?_eq_some_iff.1 h.con).1]
  refine (h.below (below_alloc _ _)).vars ?_
  have := World.ownsRow_lit (e := 3) (size := 1) w (xs.map (Value.int .i64)).toArray xs.length h.base (by unfold maxLen; omega) (by simp)
  simpa using this
/-- A row of another type, or none of its own, has grown. -/
theorem ConT.grown {v : Value} {e : TypeId} {s n : Nat} {xs : List Value} {o : Obj} (h : ConT c w0 w p vv vc vr vl k) (hv : w.ownsRow w0.heap.size e s v n xs) (hg : (w.alloc o).grownBy w' v.ownBlock) (ho : ConR w0.heap.size w' vv vc vr vl k) (he : e ≠ 73) : ConT c w0 w' p vv vc vr vl k where
  st := (h.st.below (below_alloc _ _)).grown hg (fun j hj => by have h1 := (hv.lt j hj).1; have h2 := h.Rw; have h3 := h.Nw; have h4 := h.NBw; exact ⟨by omega, by omega, by omega⟩)
  fr := (h.fr.alloc _).grown hg (fun j hj => Or.inr ((hv.lt j hj).1))
  res := blk_grown (((below_alloc w o).block _ (Array.getElem?_eq_some_iff.1 h.res).1).trans h.res) hg (hv.alloc _) (Ne.symm he)
  con := blk_grown (((below_alloc w o).block _ (Array.getElem?_eq_some_iff.1 h.con).1).trans h.con) hg (hv.alloc _) (Ne.symm he)
  Rw := h.Rw
  Nw := h.Nw
  NBw := h.NBw
  own := ho
/-- Reader, frame and lists, once the result has been written. -/
theorem ConT.endd (h : ConT c w0 w p vv vc vr vl k) (u0 u1 u2 u3 u4 u5 : Value) (W : World)
    (hW : W = (((((w.setCell ⟨w0.heap.size, 0, none⟩ u0).setCell ⟨w0.heap.size, 1, none⟩ u1).setCell ⟨w0.heap.size, 2, none⟩ u2).setCell ⟨w0.heap.size, 3, none⟩ u3).setCell ⟨w0.heap.size, 4, none⟩ u4).setCell ⟨w0.heap.size, 5, none⟩ u5) :
    ConR w0.heap.size W vv vc vr vl k ∧ RSt c p W ∧ Fr (XR9 c.R) w0 W := by
  subst hW
  have hne : w0.heap.size ≠ c.R := by have := h.Rw; omega
  have k0 : ∃ cs, w.heap[w0.heap.size]? = some (.cells cs 73) := ⟨_, h.res⟩
  have k1 := blk_put k0 0 u0
  have k2 := blk_put k1 1 u1
  have k3 := blk_put k2 2 u2
  have k4 := blk_put k3 3 u3
  have k5 := blk_put k4 4 u4
  refine ⟨?_, ?_, ?_⟩
  · exact (((((h.own.set k0.choose_spec 0 u0).set k1.choose_spec 1 u1).set k2.choose_spec 2 u2).set k3.choose_spec 3 u3).set k4.choose_spec 4 u4).set k5.choose_spec 5 u5
  · exact (((((h.st.set (q := ⟨w0.heap.size, 0, none⟩) hne h.Nw h.NBw _).set (q := ⟨w0.heap.size, 1, none⟩) hne h.Nw h.NBw _).set (q := ⟨w0.heap.size, 2, none⟩) hne h.Nw h.NBw _).set (q := ⟨w0.heap.size, 3, none⟩) hne h.Nw h.NBw _).set (q := ⟨w0.heap.size, 4, none⟩) hne h.Nw h.NBw _).set (q := ⟨w0.heap.size, 5, none⟩) hne h.Nw h.NBw _
  · exact (((((h.fr.setNew (p := ⟨w0.heap.size, 0, none⟩) (Nat.le_refl _) _).setNew (p := ⟨w0.heap.size, 1, none⟩) (Nat.le_refl _) _).setNew (p := ⟨w0.heap.size, 2, none⟩) (Nat.le_refl _) _).setNew (p := ⟨w0.heap.size, 3, none⟩) (Nat.le_refl _) _).setNew (p := ⟨w0.heap.size, 4, none⟩) (Nat.le_refl _) _).setNew (p := ⟨w0.heap.size, 5, none⟩) (Nat.le_refl _) _
end
theorem solid_cons : ∀ s ∈ conWL.tail, solid s := by
  intro s hs
  simp only [conWL, List.tail_cons, List.mem_cons, List.not_mem_nil, or_false] at hs
  rcases hs with rfl | rfl | rfl | rfl | rfl | rfl | rfl | rfl | rfl | rfl <;> (unfold solid; rw [ByteArray.toList_eq, ByteArray.toList_eq]; rfl)
end Go.Proofs.YtdjbejlbmaiocagGreatDoor
