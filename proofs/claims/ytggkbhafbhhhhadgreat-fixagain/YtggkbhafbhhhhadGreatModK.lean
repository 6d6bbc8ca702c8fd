/-
  WALKS: package model: sum, slices.Equal, Max over numbers.
-/
import Derived.Test.YtggkbhafbhhhhadGreatModJ
namespace Go.Proofs.YtggkbhafbhhhhadGreat
open Go.RowKit

theorem mul_bound (x y : Int) (h1 : -1000 ≤ x) (h2 : x ≤ 1000) (h3 : -50 ≤ y) (h4 : y ≤ 50) : -50000 ≤ x * y ∧ x * y ≤ 50000 := by
  have key : (x * y).natAbs ≤ 50000 := by
    rw [Int.natAbs_mul]
    have := Nat.mul_le_mul (show x.natAbs ≤ 1000 by omega) (show y.natAbs ≤ 50 by omega)
    omega
  omega
def sumK (consts own : List Int) (k : Nat) : Int := ((List.zipWith (· * ·) consts own).take k).sum
theorem sumK_next (consts own : List Int) (k : Nat) (x y : Int) (hx : consts[k]? = some x) (hy : own[k]? = some y) : sumK consts own (k + 1) = sumK consts own k + x * y := by
  unfold sumK
  rw [List.take_add_one, List.getElem?_zipWith, hx, hy]
  simp [List.sum_append]

set_option maxHeartbeats 800000 in
set_option maxRecDepth 100000 in
theorem sum_any (consts own : List Int) (u v : Value) (w : World) (hu : IArg w u consts) (hv : IArg w v own) (hl : consts.length = own.length) (hn : consts.length ≤ 8)
    (hc : ∀ x ∈ consts, -1000 ≤ x ∧ x ≤ 1000) (ho : ∀ x ∈ own, -50 ≤ x ∧ x ≤ 50) :
    Calls Tryz.prog 86 #[u, v] w fun e w' => e = .returned (.int .i64 (sumV consts own)) ∧ w' = w := by
  obtain ⟨a, c, rfl, hm, h1⟩ := hu
  obtain ⟨a', c', rfl, hm', h2⟩ := hv
  have HU : Hid (∀ (i : Nat) (z : Int), consts[i]? = some z → ∃ b off, a = some ⟨b, off, none⟩ ∧ b < w.heap.size ∧ w.cell? ⟨b, off + i, none⟩ = some (.int .i64 z)) := h1
  have HV : Hid (∀ (i : Nat) (z : Int), own[i]? = some z → ∃ b off, a' = some ⟨b, off, none⟩ ∧ b < w.heap.size ∧ w.cell? ⟨b, off + i, none⟩ = some (.int .i64 z)) := h2
  have HL : Hid (consts.length = own.length) := hl
  have HC : Hid (∀ x ∈ consts, -1000 ≤ x ∧ x ≤ 1000) := hc
  have HO : Hid (∀ x ∈ own, -50 ≤ x ∧ x ≤ 50) := ho
  obtain ⟨R, hR⟩ : ∃ R, sumV consts own = R := ⟨_, rfl⟩
  rw [hR]
  have HR : Hid (sumV consts own = R) := hR
  unfold maxLen at hm hm'
  obtain ⟨hm1, hm⟩ := hm
  obtain ⟨hm1', hm'⟩ := hm'
  clear h1 h2 hl hc ho hR
  go_enter Tryz.func86, Tryz.ntmps86
  go_wp2_with fail
  go_loop [5, 10] (fun t i => ∃ (k : Nat) (s : Int), k ≤ consts.length ∧ i = .int .i64 k ∧ t = .int .i64 s ∧ Hid (sumK consts own k = s) ∧ (-50000 * (k : Int) ≤ s ∧ s ≤ 50000 * (k : Int))) (fun _ i => consts.length - (intOf i).toNat)
  case atStart => exact ⟨0, 0, by omega, rfl, rfl, rfl, by omega⟩
  case round =>
    obtain ⟨k, s, hk, rfl, rfl, hs, hb1, hb2⟩ := hrel
    by_cases hlt : k < consts.length
    · have hlt' : k < own.length := by rw [← HL.out]; exact hlt
      obtain ⟨x, hx⟩ : ∃ x, consts[k]? = some x := ⟨consts[k], by simp [hlt]⟩
      obtain ⟨y, hy⟩ : ∃ y, own[k]? = some y := ⟨own[k], by simp [hlt']⟩
      have HX : Hid (sumK consts own (k + 1) = s + x * y) := by show _ = _; rw [sumK_next consts own k x y hx hy, hs.out]
      obtain ⟨b, off, rfl, hb, hc⟩ := HU.out k x hx
      obtain ⟨b', off', rfl, hb', hd⟩ := HV.out k y hy
      have hxb := HC.out x (List.mem_of_getElem? hx)
      have hyb := HO.out y (List.mem_of_getElem? hy)
      obtain ⟨hp1, hp2⟩ := mul_bound x y hxb.1 hxb.2 hyb.1 hyb.2
      clear hx hy hb hb' hxb hyb
      go_wp2
      go_round
      case rel => exact ⟨k + 1, s + x * y, by omega, by go_num, by go_num, HX, by omega, by omega⟩
      case measure => simp [intOf]; omega
    · have HN : Hid (s = R) := by
        show _ = _
        rw [← hs.out, ← HR.out]; unfold sumK sumV
        rw [List.take_of_length_le (by rw [List.length_zipWith]; omega)]
      go_wp2
      go_ret
      exact ⟨ret_int HN.out, rfl⟩

theorem take_same0 {α : Type} (a b : List α) (m : Nat) (x : α) (h : a.take m = b.take m) (ha : a[m]? = some x) (hb : b[m]? = some x) : a.take (m + 1) = b.take (m + 1) := by
  rw [List.take_add_one, List.take_add_one, h, ha, hb]
theorem same_end0 {α : Type} (a b : List α) (m : Nat) (h : a.take m = b.take m) (ha : ¬ m < a.length) (hl : a.length = b.length) : a = b := by
  rwa [List.take_of_length_le (by omega), List.take_of_length_le (by omega)] at h
theorem not_same0 {α : Type} (a b : List α) (m : Nat) (x y : α) (ha : a[m]? = some x) (hb : b[m]? = some y) (h : x ≠ y) : a ≠ b := by
  intro e; subst e; rw [ha] at hb; cases hb; exact h rfl
set_option maxHeartbeats 800000 in
set_option maxRecDepth 100000 in
theorem equal_any (l k : List Int) (v u : Value) (w : World) (hv : IArg w v l) (hu : IArg w u k) :
    Calls Tryz.prog 90 #[v, u] w fun e w' => e = .returned (.bool (decide (l = k))) ∧ ∃ n, w' = w.drewN n := by
  obtain ⟨a, c, rfl, hm, hr⟩ := hv
  obtain ⟨a', c', rfl, hm', hr'⟩ := hu
  have HV : Hid (∀ (i : Nat) (z : Int), l[i]? = some z → ∃ b off, a = some ⟨b, off, none⟩ ∧ b < w.heap.size ∧ w.cell? ⟨b, off + i, none⟩ = some (.int .i64 z)) := hr
  have HV' : Hid (∀ (i : Nat) (z : Int), k[i]? = some z → ∃ b off, a' = some ⟨b, off, none⟩ ∧ b < w.heap.size ∧ w.cell? ⟨b, off + i, none⟩ = some (.int .i64 z)) := hr'
  obtain ⟨R, hR⟩ : ∃ R, decide (l = k) = R := ⟨_, rfl⟩
  rw [hR]
  have HR : Hid (decide (l = k) = R) := hR
  unfold maxLen at hm hm'
  obtain ⟨hm1, hm⟩ := hm
  obtain ⟨hm1', hm'⟩ := hm'
  clear hr hr' hR
  by_cases hl : l.length = k.length
  · have HL : Hid (l.length = k.length) := hl
    have g0 : ((l.length : Int) != (k.length : Int)) = false := by simp [hl]
    clear hl
    go_enter Tryz.func90, Tryz.ntmps90
    go_wp2_with fail
    go_loopw [13] (fun i wr => ∃ m : Nat, m ≤ l.length ∧ i = .int .i64 m ∧ Hid (l.take m = k.take m) ∧ ∃ n, wr = w.drewN n) (fun i _ => l.length - (intOf i).toNat)
    case atStart => exact ⟨0, by omega, rfl, rfl, 0, rfl⟩
    case round =>
      obtain ⟨m, hml, rfl, hall, nq, rfl⟩ := hrel
      by_cases hlt : m < l.length
      · have hlt' : m < k.length := by rw [← HL.out]; exact hlt
        obtain ⟨x, hx⟩ : ∃ x, l[m]? = some x := ⟨l[m], by simp [hlt]⟩
        obtain ⟨y, hy⟩ : ∃ y, k[m]? = some y := ⟨k[m], by simp [hlt']⟩
        obtain ⟨b, off, ha, hb, hc⟩ := HV.out m x hx
        obtain ⟨b', off', ha', hb', hd⟩ := HV'.out m y hy
        have HX : Hid (l[m]? = some x) := hx
        have HY : Hid (k[m]? = some y) := hy
        subst ha; subst ha'
        clear hx hy
        by_cases hq : x = y
        · subst hq
          have HN : Hid (l.take (m + 1) = k.take (m + 1)) := take_same0 l k m x hall.out HX.out HY.out
          go_wp2
          go_quiet (fail)
          go_wp2
          go_roundw
          case rel => exact ⟨m + 1, by omega, by go_num, HN, _, rfl⟩
          case measure => simp [intOf]; omega
        · have HN : Hid (R = false) := by rw [← HR.out]; exact decide_eq_false (not_same0 l k m x y HX.out HY.out hq)
          have hq2 : (x != y) = true := by simpa using hq
          clear hq
          go_wp2
          go_quiet (fail)
          go_wp2
          go_ret
          exact ⟨ret_bool HN.out.symm, _, drewN_drewN _ _ _⟩
      · have HN : Hid (R = true) := by rw [← HR.out]; exact decide_eq_true (same_end0 l k m hall.out hlt HL.out)
        go_wp2
        go_ret
        exact ⟨ret_bool HN.out.symm, _, rfl⟩
  · have HN : Hid (R = false) := by rw [← HR.out]; exact decide_eq_false (fun h => hl (by rw [h]))
    have g0 : ((l.length : Int) != (k.length : Int)) = true := by simp; omega
    clear hl
    go_enter Tryz.func90, Tryz.ntmps90
    go_wp2
    go_ret
    exact ⟨ret_bool HN.out.symm, 0, rfl⟩

theorem max_next (a : Int) (r : List Int) (k : Nat) (x : Int) (hx : r[k]? = some x) : (r.take (k + 1)).foldl max a = max ((r.take k).foldl max a) x := by
  rw [List.take_add_one, hx, List.foldl_append]; rfl
set_option maxHeartbeats 800000 in
set_option maxRecDepth 100000 in
theorem max_any (p : Int) (r : List Int) (v : Value) (w : World) (hv : IArg w v (p :: r)) :
    Calls Tryz.prog 91 #[v] w fun e w' => e = .returned (.int .i64 (r.foldl max p)) ∧ w' = w := by
  obtain ⟨a, c, rfl, hm, h1⟩ := hv
  have HU : Hid (∀ (i : Nat) (z : Int), (p :: r)[i]? = some z → ∃ b off, a = some ⟨b, off, none⟩ ∧ b < w.heap.size ∧ w.cell? ⟨b, off + i, none⟩ = some (.int .i64 z)) := h1
  obtain ⟨b, off, rfl, hb, hc⟩ := h1 0 p rfl
  rw [Nat.add_zero] at hc
  obtain ⟨R, hR⟩ : ∃ R, r.foldl max p = R := ⟨_, rfl⟩
  rw [hR]
  have HR : Hid (r.foldl max p = R) := hR
  unfold maxLen at hm
  obtain ⟨hm1, hm⟩ := hm
  obtain ⟨n, hn⟩ : ∃ n, (p :: r).length = n := ⟨_, rfl⟩
  rw [hn] at hm1 ⊢
  have HN : Hid (n = r.length + 1) := by rw [← hn]; rfl
  have hn1 : 1 ≤ n := by rw [← hn]; simp
  clear h1 hR hn
  go_enter Tryz.func91, Tryz.ntmps91
  go_wp2_with fail
  go_loop [3, 4] (fun t i => ∃ (k : Nat) (s : Int), k + 1 ≤ n ∧ i = .int .i64 ((k : Int) + 1) ∧ t = .int .i64 s ∧ Hid ((r.take k).foldl max p = s)) (fun _ i => n - (intOf i).toNat)
  case atStart => exact ⟨0, p, by omega, rfl, rfl, rfl⟩
  case round =>
    obtain ⟨k, s, hk, rfl, rfl, hs⟩ := hrel
    by_cases hlt : k + 1 < n
    · have hlr : k < r.length := by have := HN.out; omega
      obtain ⟨x, hx⟩ : ∃ x, r[k]? = some x := ⟨r[k], by simp [hlr]⟩
      have HX : Hid ((r.take (k + 1)).foldl max p = if s < x then x else s) := by show _ = _; rw [max_next p r k x hx, hs.out]; split <;> omega
      obtain ⟨b2, off2, hab, hb2, hd⟩ := HU.out (k + 1) x (by simpa using hx)
      cases hab
      clear hx hlr
      go_wp2
      go_round
      case rel => exact ⟨k + 1, _, by omega, by go_num, rfl, HX⟩
      case measure => simp [intOf]; omega
    · have HF : Hid (s = R) := by
        show _ = _
        rw [← hs.out, ← HR.out, List.take_of_length_le (by have := HN.out; omega)]
      go_wp2
      go_ret
      exact ⟨ret_int HF.out, rfl⟩
end Go.Proofs.YtggkbhafbhhhhadGreat
