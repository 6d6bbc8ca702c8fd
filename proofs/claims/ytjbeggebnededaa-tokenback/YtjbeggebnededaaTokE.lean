/-
  WALKS: the reference's TokenAt at signs; TokenAt whole.
-/
import Derived.Test.YtjbeggebnededaaTokD
namespace Go.Proofs.Ytjbeggebnededaa
open Go.RowKit

theorem take2_data (s : ByteArray) (k : Nat) : (s.extract k (k + 2)).toList = (s.data.toList.drop k).take 2 := by
  rw [ByteArray.toList_eq, ByteArray.data_extract, Array.toList_extract, List.extract_eq_take_drop, Nat.add_sub_cancel_left]

set_option maxHeartbeats 800000 in
set_option maxRecDepth 100000 in
theorem at_sign2 (s : ByteArray) (k : Nat) (hk : k < s.size) (hs : s.size ≤ maxLen) (w : World) (hL : isL s[k] = false) (hD : isD s[k] = false) (h2 : sign2 (s.data.toList.drop k) = true) :
    Calls Try.prog 29 #[.string s, .int .i64 k] w fun e w' => e = .returned (.tuple #[.int .i64 3, .int .i64 2]) ∧ w' = w := by
  unfold maxLen at hs
  have hk2 : k + 2 ≤ s.size := by have := sign2_len _ h2; simp at this; omega
  have hx := take2_data s k
  have HL : Hid (isL s[k] = false) := hL
  have HD : Hid (isD s[k] = false) := hD
  have HX : Hid (((s.extract k (k + 2)).toList == [46, 46]) = true ∨ ((s.extract k (k + 2)).toList == [60, 61]) = true ∨ ((s.extract k (k + 2)).toList == [62, 61]) = true ∨ ((s.extract k (k + 2)).toList == [61, 61]) = true ∨ ((s.extract k (k + 2)).toList == [33, 61]) = true) := by
    rw [hx]; show _ ∨ _; simpa only [sign2, Bool.or_eq_true] using h2
  clear hL hD h2 hx
  go_enter Try.func29, Try.ntmps29
  go_wp2_with fail
  refine (rletter_any _ _).mono ?_
  rintro e w ⟨rfl, rfl⟩
  rw [HL.out]
  go_wp2_with fail
  refine (rdigit_any _ _).mono ?_
  rintro e w ⟨rfl, rfl⟩
  rw [HD.out]
  rcases HX.out with h | h | h | h | h
  all_goals
    go_wp2
    all_goals (go_ret2; exact ⟨rfl, rfl⟩)

theorem sign1_of (c : UInt8) (n : Int) (h : (n == (c.toNat : Int)) = true) (hn : n = 91 ∨ n = 93 ∨ n = 59 ∨ n = 58 ∨ n = 44 ∨ n = 45) : sign1 c = true := by
  have h' : n = (c.toNat : Int) := by simpa using h
  unfold sign1
  rw [← h']
  rcases hn with rfl | rfl | rfl | rfl | rfl | rfl <;> decide
def noSign (m : Nat) (c : UInt8) : Prop :=
  (0 < m → ((c.toNat : Int) == 91) = false) ∧ (1 < m → ((c.toNat : Int) == 93) = false) ∧ (2 < m → ((c.toNat : Int) == 59) = false) ∧ (3 < m → ((c.toNat : Int) == 58) = false) ∧ (4 < m → ((c.toNat : Int) == 44) = false) ∧ (5 < m → ((c.toNat : Int) == 45) = false)
theorem noSign0 (c : UInt8) (_h : noSign 0 c) (hq : ((c.toNat : Int) == 91) = false) : noSign 1 c := ⟨fun _ => hq, fun h' => by omega, fun h' => by omega, fun h' => by omega, fun h' => by omega, fun h' => by omega⟩
theorem noSign1 (c : UInt8) (h : noSign 1 c) (hq : ((c.toNat : Int) == 93) = false) : noSign 2 c := ⟨fun _ => h.1 (by omega), fun _ => hq, fun h' => by omega, fun h' => by omega, fun h' => by omega, fun h' => by omega⟩
theorem noSign2 (c : UInt8) (h : noSign 2 c) (hq : ((c.toNat : Int) == 59) = false) : noSign 3 c := ⟨fun _ => h.1 (by omega), fun _ => h.2.1 (by omega), fun _ => hq, fun h' => by omega, fun h' => by omega, fun h' => by omega⟩
theorem noSign3 (c : UInt8) (h : noSign 3 c) (hq : ((c.toNat : Int) == 58) = false) : noSign 4 c := ⟨fun _ => h.1 (by omega), fun _ => h.2.1 (by omega), fun _ => h.2.2.1 (by omega), fun _ => hq, fun h' => by omega, fun h' => by omega⟩
theorem noSign4 (c : UInt8) (h : noSign 4 c) (hq : ((c.toNat : Int) == 44) = false) : noSign 5 c := ⟨fun _ => h.1 (by omega), fun _ => h.2.1 (by omega), fun _ => h.2.2.1 (by omega), fun _ => h.2.2.2.1 (by omega), fun _ => hq, fun h' => by omega⟩
theorem noSign5 (c : UInt8) (h : noSign 5 c) (hq : ((c.toNat : Int) == 45) = false) : noSign 6 c := ⟨fun _ => h.1 (by omega), fun _ => h.2.1 (by omega), fun _ => h.2.2.1 (by omega), fun _ => h.2.2.2.1 (by omega), fun _ => h.2.2.2.2.1 (by omega), fun _ => hq⟩
theorem sign1_not (c : UInt8) (h : noSign 6 c) : sign1 c = false := by
  obtain ⟨g1, g2, g3, g4, g5, g6⟩ := h
  unfold sign1
  rw [g1 (by omega), g2 (by omega), g3 (by omega), g4 (by omega), g5 (by omega), g6 (by omega)]; rfl

set_option maxHeartbeats 1600000 in
set_option maxRecDepth 100000 in
theorem at_sign1 (s : ByteArray) (k : Nat) (hk : k < s.size) (hs : s.size ≤ maxLen) (w : World) (hL : isL s[k] = false) (hD : isD s[k] = false) (h2 : sign2 (s.data.toList.drop k) = false) :
    Calls Try.prog 29 #[.string s, .int .i64 k] w fun e w' => e = .returned (.tuple #[.int .i64 (if sign1 s[k] then 3 else 0), .int .i64 (if sign1 s[k] then 1 else 0)]) ∧ w' = w := by
  unfold maxLen at hs
  have hx := take2_data s k
  have HL : Hid (isL s[k] = false) := hL
  have HD : Hid (isD s[k] = false) := hD
  have hx5 : ((s.extract k (k + 2)).toList == [46, 46]) = false ∧ ((s.extract k (k + 2)).toList == [60, 61]) = false ∧ ((s.extract k (k + 2)).toList == [62, 61]) = false ∧ ((s.extract k (k + 2)).toList == [61, 61]) = false ∧ ((s.extract k (k + 2)).toList == [33, 61]) = false := by
    rw [hx]; simpa only [sign2, Bool.or_eq_false_iff] using h2
  obtain ⟨x1, x2, x3, x4, x5⟩ := hx5
  clear hL hD h2 hx
  obtain ⟨r1, hr1⟩ : ∃ r : Int, (if sign1 s[k] then 3 else 0) = r := ⟨_, rfl⟩
  obtain ⟨r2, hr2⟩ : ∃ r : Int, (if sign1 s[k] then 1 else 0) = r := ⟨_, rfl⟩
  have HR1 : Hid (((if sign1 s[k] then 3 else 0) : Int) = r1 ∧ ((if sign1 s[k] then 1 else 0) : Int) = r2) := ⟨hr1, hr2⟩
  rw [hr1, hr2]
  clear hr1 hr2
  go_enter Try.func29, Try.ntmps29
  go_wp2_with fail
  refine (rletter_any _ _).mono ?_
  rintro e w ⟨rfl, rfl⟩
  rw [HL.out]
  go_wp2_with fail
  refine (rdigit_any _ _).mono ?_
  rintro e w ⟨rfl, rfl⟩
  rw [HD.out]
  by_cases hk2 : k + 2 ≤ s.size
  all_goals
    go_wp2_with fail
    clear x1 x2 x3 x4 x5
    go_loop [10] (fun i => ∃ (m : Nat) (z : Int), m ≤ 6 ∧ z = m ∧ i = .int .i64 z ∧ noSign m s[k]) (fun i => 6 - (intOf i).toNat)
    case atStart => exact ⟨0, 0, by omega, rfl, rfl, by refine ⟨?_, ?_, ?_, ?_, ?_, ?_⟩ <;> (intro h; omega)⟩
    case round =>
      obtain ⟨m, z, hm, hz, rfl, hns⟩ := hrel
      rcases (show m = 0 ∨ m = 1 ∨ m = 2 ∨ m = 3 ∨ m = 4 ∨ m = 5 ∨ m = 6 by omega) with rfl | rfl | rfl | rfl | rfl | rfl | rfl
      · obtain rfl : z = 0 := by omega
        clear hz hm
        cases hq0 : ((((⟨#[91, 93, 59, 58, 44, 45]⟩ : ByteArray)[0]'(by decide)).toNat : Int) == (s[k].toNat : Int))
        · have hq : ((91 : Int) == (s[k].toNat : Int)) = false := hq0
          go_wp2
          go_round
          case rel => exact ⟨1, 1, by omega, rfl, by go_num, noSign0 _ hns (by rw [← hq]; exact BEq.comm)⟩
          case measure => simp [intOf]
        · have hq : ((91 : Int) == (s[k].toNat : Int)) = true := hq0
          have HY : Hid (r1 = 3 ∧ r2 = 1) := by rw [← HR1.out.1, ← HR1.out.2]; rw [sign1_of _ _ hq (by omega)]; exact ⟨rfl, rfl⟩
          obtain ⟨rfl, rfl⟩ := HY.out
          go_wp2
          go_ret2
          exact ⟨rfl, rfl⟩
      · obtain rfl : z = 1 := by omega
        clear hz hm
        cases hq0 : ((((⟨#[91, 93, 59, 58, 44, 45]⟩ : ByteArray)[1]'(by decide)).toNat : Int) == (s[k].toNat : Int))
        · have hq : ((93 : Int) == (s[k].toNat : Int)) = false := hq0
          go_wp2
          go_round
          case rel => exact ⟨2, 2, by omega, rfl, by go_num, noSign1 _ hns (by rw [← hq]; exact BEq.comm)⟩
          case measure => simp [intOf]
        · have hq : ((93 : Int) == (s[k].toNat : Int)) = true := hq0
          have HY : Hid (r1 = 3 ∧ r2 = 1) := by rw [← HR1.out.1, ← HR1.out.2]; rw [sign1_of _ _ hq (by omega)]; exact ⟨rfl, rfl⟩
          obtain ⟨rfl, rfl⟩ := HY.out
          go_wp2
          go_ret2
          exact ⟨rfl, rfl⟩
      · obtain rfl : z = 2 := by omega
        clear hz hm
        cases hq0 : ((((⟨#[91, 93, 59, 58, 44, 45]⟩ : ByteArray)[2]'(by decide)).toNat : Int) == (s[k].toNat : Int))
        · have hq : ((59 : Int) == (s[k].toNat : Int)) = false := hq0
          go_wp2
          go_round
          case rel => exact ⟨3, 3, by omega, rfl, by go_num, noSign2 _ hns (by rw [← hq]; exact BEq.comm)⟩
          case measure => simp [intOf]
        · have hq : ((59 : Int) == (s[k].toNat : Int)) = true := hq0
          have HY : Hid (r1 = 3 ∧ r2 = 1) := by rw [← HR1.out.1, ← HR1.out.2]; rw [sign1_of _ _ hq (by omega)]; exact ⟨rfl, rfl⟩
          obtain ⟨rfl, rfl⟩ := HY.out
          go_wp2
          go_ret2
          exact ⟨rfl, rfl⟩
      · obtain rfl : z = 3 := by omega
        clear hz hm
        cases hq0 : ((((⟨#[91, 93, 59, 58, 44, 45]⟩ : ByteArray)[3]'(by decide)).toNat : Int) == (s[k].toNat : Int))
        · have hq : ((58 : Int) == (s[k].toNat : Int)) = false := hq0
          go_wp2
          go_round
          case rel => exact ⟨4, 4, by omega, rfl, by go_num, noSign3 _ hns (by rw [← hq]; exact BEq.comm)⟩
          case measure => simp [intOf]
        · have hq : ((58 : Int) == (s[k].toNat : Int)) = true := hq0
          have HY : Hid (r1 = 3 ∧ r2 = 1) := by rw [← HR1.out.1, ← HR1.out.2]; rw [sign1_of _ _ hq (by omega)]; exact ⟨rfl, rfl⟩
          obtain ⟨rfl, rfl⟩ := HY.out
          go_wp2
          go_ret2
          exact ⟨rfl, rfl⟩
      · obtain rfl : z = 4 := by omega
        clear hz hm
        cases hq0 : ((((⟨#[91, 93, 59, 58, 44, 45]⟩ : ByteArray)[4]'(by decide)).toNat : Int) == (s[k].toNat : Int))
        · have hq : ((44 : Int) == (s[k].toNat : Int)) = false := hq0
          go_wp2
          go_round
          case rel => exact ⟨5, 5, by omega, rfl, by go_num, noSign4 _ hns (by rw [← hq]; exact BEq.comm)⟩
          case measure => simp [intOf]
        · have hq : ((44 : Int) == (s[k].toNat : Int)) = true := hq0
          have HY : Hid (r1 = 3 ∧ r2 = 1) := by rw [← HR1.out.1, ← HR1.out.2]; rw [sign1_of _ _ hq (by omega)]; exact ⟨rfl, rfl⟩
          obtain ⟨rfl, rfl⟩ := HY.out
          go_wp2
          go_ret2
          exact ⟨rfl, rfl⟩
      · obtain rfl : z = 5 := by omega
        clear hz hm
        cases hq0 : ((((⟨#[91, 93, 59, 58, 44, 45]⟩ : ByteArray)[5]'(by decide)).toNat : Int) == (s[k].toNat : Int))
        · have hq : ((45 : Int) == (s[k].toNat : Int)) = false := hq0
          go_wp2
          go_round
          case rel => exact ⟨6, 6, by omega, rfl, by go_num, noSign5 _ hns (by rw [← hq]; exact BEq.comm)⟩
          case measure => simp [intOf]
        · have hq : ((45 : Int) == (s[k].toNat : Int)) = true := hq0
          have HY : Hid (r1 = 3 ∧ r2 = 1) := by rw [← HR1.out.1, ← HR1.out.2]; rw [sign1_of _ _ hq (by omega)]; exact ⟨rfl, rfl⟩
          obtain ⟨rfl, rfl⟩ := HY.out
          go_wp2
          go_ret2
          exact ⟨rfl, rfl⟩
      · obtain rfl : z = 6 := by omega
        clear hz hm
        have HY : Hid (r1 = 0 ∧ r2 = 0) := by rw [← HR1.out.1, ← HR1.out.2]; rw [sign1_not _ hns]; exact ⟨rfl, rfl⟩
        obtain ⟨rfl, rfl⟩ := HY.out
        go_wp2
        go_ret2
        exact ⟨rfl, rfl⟩

theorem at_any (s : ByteArray) (k : Nat) (hk : k < s.size) (hs : s.size ≤ maxLen) (w : World) :
    Calls Try.prog 29 #[.string s, .int .i64 k] w fun e w' => e = .returned (.tuple #[.int .i64 (kindOf s.data.toList k), .int .i64 (endOf s.data.toList k - k : Nat)]) ∧ w' = w := by
  have hl : k < s.data.toList.length := by simpa using hk
  have hb : byteAt s.data.toList k = s[k] := by rw [byteAt_get _ _ hl]; exact list_get s k hk _
  have hb0 : byteAt (s.data.toList.drop k) 0 = s[k] := by rw [← hb]; unfold byteAt; simp
  cases hL : isL s[k]
  · cases hD : isD s[k]
    · cases h2 : sign2 (s.data.toList.drop k)
      · have e1 : ((kindOf s.data.toList k : Nat) : Int) = (if sign1 s[k] then 3 else 0) := by unfold kindOf signN; rw [hb, hb0, hL, hD, h2]; cases sign1 s[k] <;> rfl
        have e2 : ((endOf s.data.toList k - k : Nat) : Int) = (if sign1 s[k] then 1 else 0) := by unfold endOf signN; rw [hb, hb0, hL, hD, h2]; cases sign1 s[k] <;> simp
        rw [e1, e2]; exact at_sign1 s k hk hs w hL hD h2
      · have e1 : ((kindOf s.data.toList k : Nat) : Int) = 3 := by unfold kindOf signN; rw [hb, hL, hD, h2]; rfl
        have e2 : ((endOf s.data.toList k - k : Nat) : Int) = 2 := by unfold endOf signN; rw [hb, hL, hD, h2]; simp
        rw [e1, e2]; exact at_sign2 s k hk hs w hL hD h2
    · have e1 : ((kindOf s.data.toList k : Nat) : Int) = 2 := by unfold kindOf; rw [hb, hL, hD]; rfl
      have e2 : endOf s.data.toList k = runTo isD s.data.toList k := by unfold endOf; rw [hb, hL, hD]; rfl
      rw [e1, e2]; exact at_digit s k hk hs w hL hD
  · have e1 : ((kindOf s.data.toList k : Nat) : Int) = 1 := by unfold kindOf; rw [hb, hL]; rfl
    have e2 : endOf s.data.toList k = runTo isW s.data.toList k := by unfold endOf; rw [hb, hL]; rfl
    rw [e1, e2]; exact at_letter s k hk hs w hL
end Go.Proofs.Ytjbeggebnededaa
