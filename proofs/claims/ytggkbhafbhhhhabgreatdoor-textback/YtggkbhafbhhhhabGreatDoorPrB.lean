/-
  WALKS: package text: the printer: lists.
-/
import Derived.Test.YtggkbhafbhhhhabGreatDoorPrA
import Derived.Deep.OwnRows
namespace Go.Proofs.YtggkbhafbhhhhabGreatDoor
open Go.RowKit

theorem Tryz.infoStr5 : (Tryz.prog.info? 9).map (fun i => (i.zero, i.size, i.bytes)) = some (some (.string ⟨#[]⟩), 1, 16) := by kernel_rfl
theorem Tryz.underStrs5 : Tryz.prog.underlying 57 = some (.slice 9) := by kernel_rfl
/-- Texts that are being gathered in a row that was made. -/
def PL (g n : Nat) (ys : List ByteArray) (w : World) : Prop := ∃ cur, w.heap[g]? = some (.cells cur 9) ∧ cur.size = n ∧ ∀ (j : Nat) (y : ByteArray), ys[j]? = some y → cur[j]? = some (.string y)
theorem madeCells_size (z : Value) (n : Nat) : (madeCells #[z] n).size = n := by
  unfold madeCells
  simp
theorem PL.begin (w : World) (n : Nat) : PL w.heap.size n [] (w.alloc (.cells (madeCells #[.string ⟨#[]⟩] n) 9)) := ⟨_, heap_alloc_new _ _, madeCells_size _ _, fun j y h => by simp at h⟩
theorem PL.below {g n : Nat} {ys : List ByteArray} {w w' : World} (h : PL g n ys w) (hb : Below w.heap.size w w') : PL g n ys w' := by
  obtain ⟨cur, h1, h2, h3⟩ := h
  exact ⟨cur, (hb.block g (Array.getElem?_eq_some_iff.1 h1).1).trans h1, h2, h3⟩
theorem PL.next {g n : Nat} {ys : List ByteArray} {w : World} (h : PL g n ys w) (hn : ys.length < n) (y : ByteArray) : PL g n (ys ++ [y]) (w.setCell ⟨g, ys.length, none⟩ (.string y)) := by
  obtain ⟨cur, h1, h2, h3⟩ := h
  refine ⟨_, heap_setCell_same w g ys.length _ _ _ h1, by simpa using h2, fun j z hz => ?_⟩
  by_cases hj : j < ys.length
  · rw [List.getElem?_append_left hj] at hz
    rw [Array.getElem?_setIfInBounds_ne (by omega)]
    exact h3 j z hz
  · rw [List.getElem?_append_right (by omega)] at hz
    have hj0 : j - ys.length = 0 := by
      have := (List.getElem?_eq_some_iff.1 hz).1
      simp at this; omega
    rw [hj0] at hz
    cases hz
    rw [show j = ys.length by omega, Array.getElem?_setIfInBounds_self_of_lt (by omega)]
theorem PL.cell {g n : Nat} {ys : List ByteArray} {w : World} (h : PL g n ys w) (k : Nat) (hk : k < n) : ∃ u, w.cell? ⟨g, k, none⟩ = some u ∧ w.frozen? ⟨g, k, none⟩ = false := by
  obtain ⟨cur, h1, h2, _⟩ := h
  exact ⟨cur[k]'(by omega), by rw [Lib.cell_of_heap h1]; simp [h2, hk], frz9 h1 k⟩
theorem PL.done {g n : Nat} {ys : List ByteArray} {w : World} (h : PL g n ys w) (hn : ys.length = n) (hm : n ≤ 1000000) : SArg w (.slice (some ⟨g, 0, none⟩) n n) ys := by
  obtain ⟨cur, h1, h2, h3⟩ := h
  subst hn
  refine ⟨_, _, rfl, ⟨Nat.le_refl _, by unfold maxLen; omega⟩, fun i z hz => ⟨g, 0, rfl, (Array.getElem?_eq_some_iff.1 h1).1, ?_⟩⟩
  rw [Lib.cell_of_heap h1, Nat.zero_add]
  exact h3 i z hz
def brackB (ys : List ByteArray) : ByteArray := ⟨#[91]⟩ ++ ⟨(joinB ys [44, 32]).toArray⟩ ++ ⟨#[93]⟩
theorem below_setNew {N : Nat} {w w' : World} (h : Below N w w') {p : Addr} (hp : N ≤ p.block) (u : Value) : Below N w (w'.setCell p u) := h.setCell hp u

set_option maxHeartbeats 1600000 in
set_option maxRecDepth 100000 in
theorem plist_int_n (F : Nat) (f : Int → ByteArray) (l : List Int) (v : Value) (w : World) (hv : IArg w v l) (hl : l.length ≤ 1000) (hlen : (joinB (l.map f) [44, 32]).length ≤ 1000000)
    (hF : ∀ (args : Array Value) (w' : World), Sem.run Tryz.prog (callFunc F args) w' = .ok (.enter F args) w')
    (hI : ∀ x ∈ l, ∀ w', Below w.heap.size w w' → Calls Tryz.prog F #[.int .i64 x] w' fun e w'' => e = .returned (.string (f x)) ∧ Below w'.heap.size w' w'') :
    Calls Tryz.prog 89 #[v, .func (.func F) #[] #[]] w fun e w' => e = .returned (.string (brackB (l.map f))) ∧ Below w.heap.size w w' := by
  have HV : Hid (IArg w v l) := hv
  have HI : Hid (∀ x ∈ l, ∀ w', Below w.heap.size w w' → Calls Tryz.prog F #[.int .i64 x] w' fun e w'' => e = .returned (.string (f x)) ∧ Below w'.heap.size w' w'') := hI
  have HF : Hid (∀ (args : Array Value) (w' : World), Sem.run Tryz.prog (callFunc F args) w' = .ok (.enter F args) w') := hF
  have HJ : Hid ((joinB (l.map f) [44, 32]).length ≤ 1000000) := hlen
  obtain ⟨a, c, rfl, hm, hc⟩ := hv
  have HC := hc
  unfold maxLen at hm
  obtain ⟨hm1, hm⟩ := hm
  have hmk := run_make_row' (P := Tryz.prog) 57 9 (.string ⟨#[]⟩) 16 Tryz.underStrs5 Tryz.infoStr5 rfl .i64 .i64 l.length (by omega) (by omega)
  have HCC : Hid (∀ (i : Nat) (z : Int), l[i]? = some z → ∃ b off, a = some ⟨b, off, none⟩ ∧ b < w.heap.size ∧ w.cell? ⟨b, off + i, none⟩ = some (.int .i64 z)) := hc
  clear hc hI hF hlen HC
  go_enter Tryz.func89, Tryz.ntmps89
  go_wp2_with fail
  have HP0 := PL.begin w l.length
  have HB0 := below_alloc w (.cells (madeCells #[.string ⟨#[]⟩] l.length) 9)
  go_loopw [13] (fun i wr => ∃ k : Nat, k ≤ l.length ∧ i = .int .i64 k ∧ Hid (PL w.heap.size l.length ((l.take k).map f) wr) ∧ Hid (Below w.heap.size w wr)) (fun i _ => l.length - (intOf i).toNat)
  case atStart => exact ⟨0, by omega, rfl, HP0, HB0⟩
  case round =>
    clear HP0 HB0 hmk
    obtain ⟨k, hk, rfl, hpl, hbw⟩ := hrel
    have hkl : ((l.take k).map f).length = k := by simp; omega
    by_cases hlt : k < l.length
    · obtain ⟨x, hx⟩ : ∃ x, l[k]? = some x := ⟨l[k], by simp [hlt]⟩
      obtain ⟨bb, off, rfl, hbb, hcell⟩ := HCC.out k x hx
      have e1 := (hbw.out.cell (p := ⟨bb, off + k, none⟩) hbb).trans hcell
      have HX : Hid (l[k]? = some x) := hx
      have HNX : Hid ((l.take (k + 1)).map f = (l.take k).map f ++ [f x]) := by show _ = _; rw [List.take_add_one, hx]; simp
      have HKL : Hid (((l.take k).map f).length = k) := hkl
      clear hcell hbb hx hkl
      go_wp2_with fail
      rw [HF.out, Oper.upon_enter]
      refine (HI.out x (List.mem_of_getElem? HX.out) wr hbw.out).mono ?_
      rintro e w2 ⟨rfl, hb2⟩
      have HP2 : Hid (PL w.heap.size l.length ((l.take k).map f) w2) := hpl.out.below hb2
      have HB2 : Hid (Below w.heap.size w w2) := hbw.out.trans (hb2.mono hbw.out.size)
      obtain ⟨u, hu, hz⟩ := HP2.out.cell k hlt
      have HP3 : Hid (PL w.heap.size l.length ((l.take (k + 1)).map f) (w2.setCell ⟨w.heap.size, k, none⟩ (.string (f x)))) := by
        have := HP2.out.next (by rw [HKL.out]; exact hlt) (f x)
        rw [HKL.out] at this
        rw [HNX.out]; exact this
      have HB3 : Hid (Below w.heap.size w (w2.setCell ⟨w.heap.size, k, none⟩ (.string (f x)))) := below_setNew HB2.out (p := ⟨w.heap.size, k, none⟩) (Nat.le_refl _) _
      clear hb2
      go_wp2
      go_roundw
      case rel => exact ⟨k + 1, by omega, by go_num, HP3, HB3⟩
      case measure => simp [intOf]; omega
    · have hkk : k = l.length := by omega
      have HSA : Hid (SArg wr (.slice (some ⟨w.heap.size, 0, none⟩) l.length l.length) (l.map f)) := by
        have := hpl.out
        rw [hkk, List.take_length] at this
        exact this.done (by simp) (by omega)
      clear hkl
      go_wp2_with fail
      refine (pjoin_any (l.map f) _ ⟨#[44, 32]⟩ wr HSA.out (by have := HJ.out; show (joinB (l.map f) [44, 32]).length ≤ _; omega) (by simp; omega)).mono ?_
      rintro e w3 ⟨rfl, hb3⟩
      have HB3 : Hid (Below w.heap.size w w3) := hbw.out.trans (hb3.mono hbw.out.size)
      clear hb3
      have k1 : ¬ (9223372036854775807 < 1 + (joinB (l.map f) [44, 32]).length) := by have := HJ.out; omega
      have k2 : ¬ (9223372036854775807 < 1 + (joinB (l.map f) [44, 32]).length + 1) := by have := HJ.out; omega
      go_wp2
      go_ret
      exact ⟨rfl, HB3.out⟩
set_option maxHeartbeats 1600000 in
set_option maxRecDepth 100000 in
theorem plist_int_p (b F : Nat) (f : Int → ByteArray) (l : List Int) (v : Value) (w : World) (hv : IArg w v l) (hl : l.length ≤ 1000) (hlen : (joinB (l.map f) [44, 32]).length ≤ 1000000)
    (hF : ∀ (args : Array Value) (w' : World), Sem.run Tryz.prog (callFunc F args) w' = .ok (.enter F args) w')
    (hI : ∀ x ∈ l, ∀ w', Below w.heap.size w w' → Calls Tryz.prog F #[.pointer (some ⟨b, 0, none⟩), .int .i64 x] w' fun e w'' => e = .returned (.string (f x)) ∧ Below w'.heap.size w' w'') :
    Calls Tryz.prog 89 #[v, .func (.func F) #[.pointer (some ⟨b, 0, none⟩)] #[]] w fun e w' => e = .returned (.string (brackB (l.map f))) ∧ Below w.heap.size w w' := by
  have HV : Hid (IArg w v l) := hv
  have HI : Hid (∀ x ∈ l, ∀ w', Below w.heap.size w w' → Calls Tryz.prog F #[.pointer (some ⟨b, 0, none⟩), .int .i64 x] w' fun e w'' => e = .returned (.string (f x)) ∧ Below w'.heap.size w' w'') := hI
  have HF : Hid (∀ (args : Array Value) (w' : World), Sem.run Tryz.prog (callFunc F args) w' = .ok (.enter F args) w') := hF
  have HJ : Hid ((joinB (l.map f) [44, 32]).length ≤ 1000000) := hlen
  obtain ⟨a, c, rfl, hm, hc⟩ := hv
  have HC := hc
  unfold maxLen at hm
  obtain ⟨hm1, hm⟩ := hm
  have hmk := run_make_row' (P := Tryz.prog) 57 9 (.string ⟨#[]⟩) 16 Tryz.underStrs5 Tryz.infoStr5 rfl .i64 .i64 l.length (by omega) (by omega)
  have HCC : Hid (∀ (i : Nat) (z : Int), l[i]? = some z → ∃ b off, a = some ⟨b, off, none⟩ ∧ b < w.heap.size ∧ w.cell? ⟨b, off + i, none⟩ = some (.int .i64 z)) := hc
  clear hc hI hF hlen HC
  go_enter Tryz.func89, Tryz.ntmps89
  go_wp2_with fail
  have HP0 := PL.begin w l.length
  have HB0 := below_alloc w (.cells (madeCells #[.string ⟨#[]⟩] l.length) 9)
  go_loopw [13] (fun i wr => ∃ k : Nat, k ≤ l.length ∧ i = .int .i64 k ∧ Hid (PL w.heap.size l.length ((l.take k).map f) wr) ∧ Hid (Below w.heap.size w wr)) (fun i _ => l.length - (intOf i).toNat)
  case atStart => exact ⟨0, by omega, rfl, HP0, HB0⟩
  case round =>
    clear HP0 HB0 hmk
    obtain ⟨k, hk, rfl, hpl, hbw⟩ := hrel
    have hkl : ((l.take k).map f).length = k := by simp; omega
    by_cases hlt : k < l.length
    · obtain ⟨x, hx⟩ : ∃ x, l[k]? = some x := ⟨l[k], by simp [hlt]⟩
      obtain ⟨bb, off, rfl, hbb, hcell⟩ := HCC.out k x hx
      have e1 := (hbw.out.cell (p := ⟨bb, off + k, none⟩) hbb).trans hcell
      have HX : Hid (l[k]? = some x) := hx
      have HNX : Hid ((l.take (k + 1)).map f = (l.take k).map f ++ [f x]) := by show _ = _; rw [List.take_add_one, hx]; simp
      have HKL : Hid (((l.take k).map f).length = k) := hkl
      clear hcell hbb hx hkl
      go_wp2_with fail
      rw [HF.out, Oper.upon_enter]
      refine (HI.out x (List.mem_of_getElem? HX.out) wr hbw.out).mono ?_
      rintro e w2 ⟨rfl, hb2⟩
      have HP2 : Hid (PL w.heap.size l.length ((l.take k).map f) w2) := hpl.out.below hb2
      have HB2 : Hid (Below w.heap.size w w2) := hbw.out.trans (hb2.mono hbw.out.size)
      obtain ⟨u, hu, hz⟩ := HP2.out.cell k hlt
      have HP3 : Hid (PL w.heap.size l.length ((l.take (k + 1)).map f) (w2.setCell ⟨w.heap.size, k, none⟩ (.string (f x)))) := by
        have := HP2.out.next (by rw [HKL.out]; exact hlt) (f x)
        rw [HKL.out] at this
        rw [HNX.out]; exact this
      have HB3 : Hid (Below w.heap.size w (w2.setCell ⟨w.heap.size, k, none⟩ (.string (f x)))) := below_setNew HB2.out (p := ⟨w.heap.size, k, none⟩) (Nat.le_refl _) _
      clear hb2
      go_wp2
      go_roundw
      case rel => exact ⟨k + 1, by omega, by go_num, HP3, HB3⟩
      case measure => simp [intOf]; omega
    · have hkk : k = l.length := by omega
      have HSA : Hid (SArg wr (.slice (some ⟨w.heap.size, 0, none⟩) l.length l.length) (l.map f)) := by
        have := hpl.out
        rw [hkk, List.take_length] at this
        exact this.done (by simp) (by omega)
      clear hkl
      go_wp2_with fail
      refine (pjoin_any (l.map f) _ ⟨#[44, 32]⟩ wr HSA.out (by have := HJ.out; show (joinB (l.map f) [44, 32]).length ≤ _; omega) (by simp; omega)).mono ?_
      rintro e w3 ⟨rfl, hb3⟩
      have HB3 : Hid (Below w.heap.size w w3) := hbw.out.trans (hb3.mono hbw.out.size)
      clear hb3
      have k1 : ¬ (9223372036854775807 < 1 + (joinB (l.map f) [44, 32]).length) := by have := HJ.out; omega
      have k2 : ¬ (9223372036854775807 < 1 + (joinB (l.map f) [44, 32]).length + 1) := by have := HJ.out; omega
      go_wp2
      go_ret
      exact ⟨rfl, HB3.out⟩
set_option maxHeartbeats 1600000 in
set_option maxRecDepth 100000 in
theorem plist_rows (F : Nat) (f : List Int → ByteArray) (l : List (List Int)) (v : Value) (w : World) (hv : RArg w v l) (hl : l.length ≤ 1000) (hlen : (joinB (l.map f) [44, 32]).length ≤ 1000000)
    (hF : ∀ (args : Array Value) (w' : World), Sem.run Tryz.prog (callFunc F args) w' = .ok (.enter F args) w')
    (hI : ∀ x ∈ l, ∀ xv w', Below w.heap.size w w' → IArg w' xv x → Calls Tryz.prog F #[xv] w' fun e w'' => e = .returned (.string (f x)) ∧ Below w'.heap.size w' w'') :
    Calls Tryz.prog 91 #[v, .func (.func F) #[] #[]] w fun e w' => e = .returned (.string (brackB (l.map f))) ∧ Below w.heap.size w w' := by
  have HV : Hid (RArg w v l) := hv
  have HI : Hid (∀ x ∈ l, ∀ xv w', Below w.heap.size w w' → IArg w' xv x → Calls Tryz.prog F #[xv] w' fun e w'' => e = .returned (.string (f x)) ∧ Below w'.heap.size w' w'') := hI
  have HF : Hid (∀ (args : Array Value) (w' : World), Sem.run Tryz.prog (callFunc F args) w' = .ok (.enter F args) w') := hF
  have HJ : Hid ((joinB (l.map f) [44, 32]).length ≤ 1000000) := hlen
  obtain ⟨a, c, rfl, hm, hc⟩ := hv
  have HC := hc
  unfold maxLen at hm
  obtain ⟨hm1, hm⟩ := hm
  have hmk := run_make_row' (P := Tryz.prog) 57 9 (.string ⟨#[]⟩) 16 Tryz.underStrs5 Tryz.infoStr5 rfl .i64 .i64 l.length (by omega) (by omega)
  have HCC : Hid (∀ (i : Nat) (r : List Int), l[i]? = some r → ∃ b off x, a = some ⟨b, off, none⟩ ∧ b < w.heap.size ∧ w.cell? ⟨b, off + i, none⟩ = some x ∧ IArg w x r) := hc
  clear hc hI hF hlen HC
  go_enter Tryz.func91, Tryz.ntmps91
  go_wp2_with fail
  have HP0 := PL.begin w l.length
  have HB0 := below_alloc w (.cells (madeCells #[.string ⟨#[]⟩] l.length) 9)
  go_loopw [13] (fun i wr => ∃ k : Nat, k ≤ l.length ∧ i = .int .i64 k ∧ Hid (PL w.heap.size l.length ((l.take k).map f) wr) ∧ Hid (Below w.heap.size w wr)) (fun i _ => l.length - (intOf i).toNat)
  case atStart => exact ⟨0, by omega, rfl, HP0, HB0⟩
  case round =>
    clear HP0 HB0 hmk
    obtain ⟨k, hk, rfl, hpl, hbw⟩ := hrel
    have hkl : ((l.take k).map f).length = k := by simp; omega
    by_cases hlt : k < l.length
    · obtain ⟨x, hx⟩ : ∃ x, l[k]? = some x := ⟨l[k], by simp [hlt]⟩
      obtain ⟨bb, off, xv, rfl, hbb, hcell, hxa⟩ := HCC.out k x hx
      have HXA : Hid (IArg wr xv x) := IArg.below hbw.out hxa
      obtain ⟨ax, cx, rfl, _, _⟩ := hxa
      have e1 := (hbw.out.cell (p := ⟨bb, off + k, none⟩) hbb).trans hcell
      have HX : Hid (l[k]? = some x) := hx
      have HNX : Hid ((l.take (k + 1)).map f = (l.take k).map f ++ [f x]) := by show _ = _; rw [List.take_add_one, hx]; simp
      have HKL : Hid (((l.take k).map f).length = k) := hkl
      clear hcell hbb hx hkl
      go_wp2_with fail
      rw [HF.out, Oper.upon_enter]
      refine (HI.out x (List.mem_of_getElem? HX.out) _ wr hbw.out HXA.out).mono ?_
      rintro e w2 ⟨rfl, hb2⟩
      have HP2 : Hid (PL w.heap.size l.length ((l.take k).map f) w2) := hpl.out.below hb2
      have HB2 : Hid (Below w.heap.size w w2) := hbw.out.trans (hb2.mono hbw.out.size)
      obtain ⟨u, hu, hz⟩ := HP2.out.cell k hlt
      have HP3 : Hid (PL w.heap.size l.length ((l.take (k + 1)).map f) (w2.setCell ⟨w.heap.size, k, none⟩ (.string (f x)))) := by
        have := HP2.out.next (by rw [HKL.out]; exact hlt) (f x)
        rw [HKL.out] at this
        rw [HNX.out]; exact this
      have HB3 : Hid (Below w.heap.size w (w2.setCell ⟨w.heap.size, k, none⟩ (.string (f x)))) := below_setNew HB2.out (p := ⟨w.heap.size, k, none⟩) (Nat.le_refl _) _
      clear hb2
      go_wp2
      go_roundw
      case rel => exact ⟨k + 1, by omega, by go_num, HP3, HB3⟩
      case measure => simp [intOf]; omega
    · have hkk : k = l.length := by omega
      have HSA : Hid (SArg wr (.slice (some ⟨w.heap.size, 0, none⟩) l.length l.length) (l.map f)) := by
        have := hpl.out
        rw [hkk, List.take_length] at this
        exact this.done (by simp) (by omega)
      clear hkl
      go_wp2_with fail
      refine (pjoin_any (l.map f) _ ⟨#[44, 32]⟩ wr HSA.out (by have := HJ.out; show (joinB (l.map f) [44, 32]).length ≤ _; omega) (by simp; omega)).mono ?_
      rintro e w3 ⟨rfl, hb3⟩
      have HB3 : Hid (Below w.heap.size w w3) := hbw.out.trans (hb3.mono hbw.out.size)
      clear hb3
      have k1 : ¬ (9223372036854775807 < 1 + (joinB (l.map f) [44, 32]).length) := by have := HJ.out; omega
      have k2 : ¬ (9223372036854775807 < 1 + (joinB (l.map f) [44, 32]).length + 1) := by have := HJ.out; omega
      go_wp2
      go_ret
      exact ⟨rfl, HB3.out⟩
set_option maxHeartbeats 1600000 in
set_option maxRecDepth 100000 in
theorem plist_lits (b F : Nat) (f : MLit → ByteArray) (l : List MLit) (v : Value) (w : World) (hv : LArg w v l) (hl : l.length ≤ 1000) (hlen : (joinB (l.map f) [44, 32]).length ≤ 1000000)
    (hF : ∀ (args : Array Value) (w' : World), Sem.run Tryz.prog (callFunc F args) w' = .ok (.enter F args) w')
    (hI : ∀ x ∈ l, ∀ w', Below w.heap.size w w' → Calls Tryz.prog F #[.pointer (some ⟨b, 0, none⟩), litA x] w' fun e w'' => e = .returned (.string (f x)) ∧ Below w'.heap.size w' w'') :
    Calls Tryz.prog 92 #[v, .func (.func F) #[.pointer (some ⟨b, 0, none⟩)] #[]] w fun e w' => e = .returned (.string (brackB (l.map f))) ∧ Below w.heap.size w w' := by
  have HV : Hid (LArg w v l) := hv
  have HI : Hid (∀ x ∈ l, ∀ w', Below w.heap.size w w' → Calls Tryz.prog F #[.pointer (some ⟨b, 0, none⟩), litA x] w' fun e w'' => e = .returned (.string (f x)) ∧ Below w'.heap.size w' w'') := hI
  have HF : Hid (∀ (args : Array Value) (w' : World), Sem.run Tryz.prog (callFunc F args) w' = .ok (.enter F args) w') := hF
  have HJ : Hid ((joinB (l.map f) [44, 32]).length ≤ 1000000) := hlen
  obtain ⟨a, c, rfl, hm, hc⟩ := hv
  have HC := hc
  unfold maxLen at hm
  obtain ⟨hm1, hm⟩ := hm
  have hmk := run_make_row' (P := Tryz.prog) 57 9 (.string ⟨#[]⟩) 16 Tryz.underStrs5 Tryz.infoStr5 rfl .i64 .i64 l.length (by omega) (by omega)
  have HCC : Hid (∀ (i : Nat) (t : MLit), l[i]? = some t → ∃ b off, a = some ⟨b, off, none⟩ ∧ b < w.heap.size ∧ w.cell? ⟨b, off + i * 3, none⟩ = some (.int .i64 t.var) ∧ w.cell? ⟨b, off + i * 3 + 1, none⟩ = some (.int .i64 t.op) ∧ w.cell? ⟨b, off + i * 3 + 2, none⟩ = some (.int .i64 t.n)) := hc
  clear hc hI hF hlen HC
  go_enter Tryz.func92, Tryz.ntmps92
  go_wp2_with fail
  have HP0 := PL.begin w l.length
  have HB0 := below_alloc w (.cells (madeCells #[.string ⟨#[]⟩] l.length) 9)
  go_loopw [13] (fun i wr => ∃ k : Nat, k ≤ l.length ∧ i = .int .i64 k ∧ Hid (PL w.heap.size l.length ((l.take k).map f) wr) ∧ Hid (Below w.heap.size w wr)) (fun i _ => l.length - (intOf i).toNat)
  case atStart => exact ⟨0, by omega, rfl, HP0, HB0⟩
  case round =>
    clear HP0 HB0 hmk
    obtain ⟨k, hk, rfl, hpl, hbw⟩ := hrel
    have hkl : ((l.take k).map f).length = k := by simp; omega
    by_cases hlt : k < l.length
    · obtain ⟨x, hx⟩ : ∃ x, l[k]? = some x := ⟨l[k], by simp [hlt]⟩
      obtain ⟨bb, off, rfl, hbb, hcell, hcell2, hcell3⟩ := HCC.out k x hx
      have e1 := (hbw.out.cell (p := ⟨bb, off + k * 3, none⟩) hbb).trans hcell
      have e2 := (hbw.out.cell (p := ⟨bb, off + k * 3 + 1, none⟩) hbb).trans hcell2
      have e3 := (hbw.out.cell (p := ⟨bb, off + k * 3 + 2, none⟩) hbb).trans hcell3
      have HX : Hid (l[k]? = some x) := hx
      have HNX : Hid ((l.take (k + 1)).map f = (l.take k).map f ++ [f x]) := by show _ = _; rw [List.take_add_one, hx]; simp
      have HKL : Hid (((l.take k).map f).length = k) := hkl
      clear hcell hcell2 hcell3 hbb hx hkl
      go_wp2_with fail
      rw [HF.out, Oper.upon_enter]
      have HBQ := hbw.out.trans ((below_alloc wr (.cells #[.int .i64 x.var, .int .i64 x.op, .int .i64 x.n] 76)).mono hbw.out.size)
      refine (HI.out x (List.mem_of_getElem? HX.out) _ HBQ).mono ?_
      rintro e w2 ⟨rfl, hb2⟩
      have HP2 : Hid (PL w.heap.size l.length ((l.take k).map f) w2) := (hpl.out.below (below_alloc _ _)).below hb2
      have HB2 : Hid (Below w.heap.size w w2) := HBQ.trans (hb2.mono HBQ.size)
      obtain ⟨u, hu, hz⟩ := HP2.out.cell k hlt
      have HP3 : Hid (PL w.heap.size l.length ((l.take (k + 1)).map f) (w2.setCell ⟨w.heap.size, k, none⟩ (.string (f x)))) := by
        have := HP2.out.next (by rw [HKL.out]; exact hlt) (f x)
        rw [HKL.out] at this
        rw [HNX.out]; exact this
      have HB3 : Hid (Below w.heap.size w (w2.setCell ⟨w.heap.size, k, none⟩ (.string (f x)))) := below_setNew HB2.out (p := ⟨w.heap.size, k, none⟩) (Nat.le_refl _) _
      clear hb2
      go_wp2
      go_roundw
      case rel => exact ⟨k + 1, by omega, by go_num, HP3, HB3⟩
      case measure => simp [intOf]; omega
    · have hkk : k = l.length := by omega
      have HSA : Hid (SArg wr (.slice (some ⟨w.heap.size, 0, none⟩) l.length l.length) (l.map f)) := by
        have := hpl.out
        rw [hkk, List.take_length] at this
        exact this.done (by simp) (by omega)
      clear hkl
      go_wp2_with fail
      refine (pjoin_any (l.map f) _ ⟨#[44, 32]⟩ wr HSA.out (by have := HJ.out; show (joinB (l.map f) [44, 32]).length ≤ _; omega) (by simp; omega)).mono ?_
      rintro e w3 ⟨rfl, hb3⟩
      have HB3 : Hid (Below w.heap.size w w3) := hbw.out.trans (hb3.mono hbw.out.size)
      clear hb3
      have k1 : ¬ (9223372036854775807 < 1 + (joinB (l.map f) [44, 32]).length) := by have := HJ.out; omega
      have k2 : ¬ (9223372036854775807 < 1 + (joinB (l.map f) [44, 32]).length + 1) := by have := HJ.out; omega
      go_wp2
      go_ret
      exact ⟨rfl, HB3.out⟩
end Go.Proofs.YtggkbhafbhhhhabGreatDoor
