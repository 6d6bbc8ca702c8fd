/-
  WALK: token.alone.
-/
import Derived.Test.YtjbeggebnededaaBld
namespace Go.Proofs.Ytjbeggebnededaa
open Go.RowKit

/-- Is a token the only one of its text? -/
def aloneB (t : Tok) : Bool :=
  ((scanOf t.text).2.2 == 0) && (((scanOf t.text).1.length == 1) && (((scanOf t.text).1.headD ⟨0, 0, ByteArray.empty⟩).kind == t.kind && ((scanOf t.text).1.headD ⟨0, 0, ByteArray.empty⟩).text.toList == t.text.toList))

theorem own_form {w : World} {base : Nat} {e : TypeId} {size n : Nat} {v : Value} {xs : List Value} (h : w.ownsRow base e size v n xs) : ∃ a cap, v = .slice a n cap := by
  rcases h.2 with ⟨rfl, rfl⟩ | ⟨g, cap, cur, rfl, _⟩
  · exact ⟨_, _, rfl⟩
  · exact ⟨_, _, rfl⟩
/-- What is owned lies in a row. -/
theorem own_row {w : World} {base : Nat} {v : Value} {ts : List Tok} (h : w.ownsRow base 34 3 v ts.length (toksCells ts)) (h0 : ts ≠ []) :
    ∃ g cap, v = .slice (some ⟨g, 0, none⟩) ts.length cap ∧ base ≤ g ∧ g < w.heap.size ∧ tokRow w g 0 ts := by
  rcases h.2 with ⟨_, hn⟩ | ⟨g, cap, cur, hv, hg, hb, hrest⟩
  · exact absurd (List.eq_nil_of_length_eq_zero hn) h0
  · have hlt : g < w.heap.size := (Array.getElem?_eq_some_iff.1 hb).1
    refine ⟨g, cap, hv, hg, hlt, ?_⟩
    have hc := h.cells (g := g) (by rw [hv]; rfl)
    intro i t ht
    have key : ∀ j, j < 3 → (toksCells ts)[i * 3 + j]? = (tokCells t)[j]? := by
      intro j hj
      clear hc h hrest hb hv h0
      induction ts generalizing i with
      | nil => simp at ht
      | cons a r ih =>
        cases i with
        | zero =>
          simp at ht; subst ht
          simp only [toksCells, List.flatMap_cons]
          rw [List.getElem?_append_left (by simp [tokCells]; omega)]; simp
        | succ i =>
          simp only [toksCells, List.flatMap_cons]
          rw [List.getElem?_append_right (by simp [tokCells]; omega)]
          have e1 : (i + 1) * 3 + j - (tokCells a).length = i * 3 + j := by simp [tokCells]; omega
          rw [e1]
          exact ih i (by simpa using ht)
    have hadd : ∀ j, (⟨g, 0, none⟩ : Addr).add j = ⟨g, 0 + j, none⟩ := fun j => by unfold Addr.add; split <;> simp_all
    refine ⟨?_, ?_, ?_⟩
    · have := hc (i * 3 + 0) _ (by rw [key 0 (by omega)]; rfl); rw [hadd] at this; exact this
    · have := hc (i * 3 + 1) _ (by rw [key 1 (by omega)]; rfl); rw [hadd] at this; exact this
    · have := hc (i * 3 + 2) _ (by rw [key 2 (by omega)]; rfl); rw [hadd] at this; exact this

set_option maxHeartbeats 1000000 in
set_option maxRecDepth 100000 in
theorem alone_any (t : Tok) (hs : t.text.size ≤ maxLen) (w : World) :
    Calls Try.prog 30 #[tokV t] w fun e w' => e = .returned (.bool (aloneB t)) ∧ Below w.heap.size w w' := by
  rcases hR : scanOf t.text with ⟨ts, pl, er⟩
  have hA : aloneB t = ((er == 0) && ((ts.length == 1) && ((ts.headD ⟨0, 0, ByteArray.empty⟩).kind == t.kind && (ts.headD ⟨0, 0, ByteArray.empty⟩).text.toList == t.text.toList))) := by unfold aloneB; rw [hR]
  have HR : Hid (scanOf t.text = (ts, pl, er)) := hR
  have HS : Hid (t.text.size ≤ maxLen) := hs
  clear hR hs
  unfold tokV
  by_cases her : er = 0
  · subst her
    by_cases hl : ts.length = 1
    · obtain ⟨u, rfl⟩ : ∃ u, ts = [u] := List.length_eq_one_iff.1 hl
      clear hl
      cases hkd : (u.kind == t.kind)
      · have hA2 : aloneB t = false := by rw [hA]; simp only [List.headD_cons]; rw [hkd]; rfl
        rw [hA2]; clear hA hA2
        go_enter Try.func30, Try.ntmps30
        go_wp2_with fail
        refine (scan_all t.text HS.out _).mono ?_
        rintro e w1 ⟨v, rfl, hown, hb1⟩
        rw [HR.out] at hown ⊢
        obtain ⟨g, cap, rfl, _, _, hrow⟩ := own_row hown (by simp)
        obtain ⟨c0, c1, c2⟩ := hrow 0 u rfl
        have d0 : w1.cell? ⟨w.heap.size, 0, none⟩ = some (.int .i64 t.kind) := (hb1.cell (by simp)).trans (by simp)
        have d2 : w1.cell? ⟨w.heap.size, 2, none⟩ = some (.string t.text) := (hb1.cell (by simp)).trans (by simp)
        clear hrow hown
        simp only [Nat.zero_mul, Nat.add_zero, Nat.zero_add] at c0 c1 c2
        go_wp2
        go_quiet (fail)
        go_wp2
        go_ret
        exact ⟨rfl, below_drewN ((((Below.refl _ _).alloc (Nat.le_refl _) _)).trans (hb1.mono (by simp))) _⟩
      · have hA2 : aloneB t = (u.text.toList == t.text.toList) := by rw [hA]; simp only [List.headD_cons]; rw [hkd]; rfl
        rw [hA2]; clear hA hA2
        go_enter Try.func30, Try.ntmps30
        go_wp2_with fail
        refine (scan_all t.text HS.out _).mono ?_
        rintro e w1 ⟨v, rfl, hown, hb1⟩
        rw [HR.out] at hown ⊢
        obtain ⟨g, cap, rfl, _, _, hrow⟩ := own_row hown (by simp)
        obtain ⟨c0, c1, c2⟩ := hrow 0 u rfl
        have d0 : w1.cell? ⟨w.heap.size, 0, none⟩ = some (.int .i64 t.kind) := (hb1.cell (by simp)).trans (by simp)
        have d2 : w1.cell? ⟨w.heap.size, 2, none⟩ = some (.string t.text) := (hb1.cell (by simp)).trans (by simp)
        clear hrow hown
        simp only [Nat.zero_mul, Nat.add_zero, Nat.zero_add] at c0 c1 c2
        go_wp2
        go_quiet (fail)
        go_wp2
        go_ret
        exact ⟨rfl, below_drewN ((((Below.refl _ _).alloc (Nat.le_refl _) _)).trans (hb1.mono (by simp))) _⟩
    · have hl2 : ((ts.length : Int) == 1) = false := by simpa using (show ¬ (ts.length : Int) = 1 by omega)
      have hA2 : aloneB t = false := by rw [hA]; rw [show (ts.length == 1) = false by simpa using hl]; rfl
      rw [hA2]; clear hA hA2 hl
      go_enter Try.func30, Try.ntmps30
      go_wp2_with fail
      refine (scan_all t.text HS.out _).mono ?_
      rintro e w1 ⟨v, rfl, hown, hb1⟩
      rw [HR.out] at hown ⊢
      obtain ⟨ad, cap, rfl⟩ := own_form hown
      clear hown
      go_wp2
      go_quiet (fail)
      go_wp2
      go_ret
      exact ⟨rfl, below_drewN ((((Below.refl _ _).alloc (Nat.le_refl _) _)).trans (hb1.mono (by simp))) _⟩
  · have her2 : (er == 0) = false := by simpa using her
    have hA2 : aloneB t = false := by rw [hA, her2]; rfl
    rw [hA2]; clear hA hA2 her
    go_enter Try.func30, Try.ntmps30
    go_wp2_with fail
    refine (scan_all t.text HS.out _).mono ?_
    rintro e w1 ⟨v, rfl, hown, hb1⟩
    rw [HR.out] at hown ⊢
    obtain ⟨ad, cap, rfl⟩ := own_form hown
    clear hown
    go_wp2
    go_quiet (fail)
    go_wp2
    go_ret
    exact ⟨rfl, below_drewN ((((Below.refl _ _).alloc (Nat.le_refl _) _)).trans (hb1.mono (by simp))) _⟩
end Go.Proofs.Ytjbeggebnededaa
