/-
  WALKS: the reference's TokenAt, and what it calls.
-/
import Derived.Test.YtjbeggebnededaaTokC
namespace Go.Proofs.Ytjbeggebnededaa
open Go.RowKit

theorem ret_two {v : Value} {k : IntKind} {a b : Int} (h : a = b) : Ending.returned (.tuple #[v, .int k a]) = .returned (.tuple #[v, .int k b]) := by rw [h]

set_option maxHeartbeats 400000 in
theorem between_any (n a b : Int) (w : World) :
    Calls Try.prog 39 #[.int .i64 n, .int .i64 a, .int .i64 b] w fun e w' => e = .returned (.bool (decide (a ≤ n) && decide (n ≤ b))) ∧ w' = w := by
  go_enter Try.func39, Try.ntmps39
  go_wp2
  · go_ret; exact ⟨ret_bool (by simp [*]), rfl⟩
  · go_ret; exact ⟨ret_bool (by rw [decide_eq_false (p := a ≤ n) (by omega)]; rfl), rfl⟩

set_option maxHeartbeats 400000 in
theorem rletter_any (c : UInt8) (w : World) :
    Calls Try.prog 54 #[.int .u8 c.toNat] w fun e w' => e = .returned (.bool (isL c)) ∧ w' = w := by
  have hc : c.toNat < 256 := c.toNat_lt
  unfold isL
  go_enter Try.func54, Try.ntmps54
  go_wp2_with fail
  refine (between_any _ _ _ _).mono ?_
  rintro e w ⟨rfl, rfl⟩
  go_wp2
  go_ret
  exact ⟨ret_bool (by simp), rfl⟩
set_option maxHeartbeats 400000 in
theorem rdigit_any (c : UInt8) (w : World) :
    Calls Try.prog 55 #[.int .u8 c.toNat] w fun e w' => e = .returned (.bool (isD c)) ∧ w' = w := by
  have hc : c.toNat < 256 := c.toNat_lt
  unfold isD
  go_enter Try.func55, Try.ntmps55
  go_wp2_with fail
  refine (between_any _ _ _ _).mono ?_
  rintro e w ⟨rfl, rfl⟩
  go_wp2
  go_ret
  exact ⟨ret_bool (by simp), rfl⟩

set_option maxHeartbeats 800000 in
set_option maxRecDepth 100000 in
theorem at_letter (s : ByteArray) (k : Nat) (hk : k < s.size) (hs : s.size ≤ maxLen) (w : World) (hL : isL s[k] = true) :
    Calls Try.prog 29 #[.string s, .int .i64 k] w fun e w' => e = .returned (.tuple #[.int .i64 1, .int .i64 (runTo isW s.data.toList k - k : Nat)]) ∧ w' = w := by
  unfold maxLen at hs
  have hl : k < s.data.toList.length := by simpa using hk
  have hgo : Hid (runTo isW s.data.toList (k + 1) = runTo isW s.data.toList k) := (runTo_go isW _ k hl (by rw [list_get s k hk hl]; simp [isW, hL])).symm
  have HL : Hid (isL s[k] = true) := hL
  clear hL
  go_enter Try.func29, Try.ntmps29
  go_wp2_with fail
  refine (rletter_any _ _).mono ?_
  rintro e w ⟨rfl, rfl⟩
  rw [HL.out]
  go_wp2_with fail
  go_loop [7] (fun i => ∃ m : Nat, 1 ≤ m ∧ k + m ≤ s.size ∧ i = .int .i64 m ∧ Hid (runTo isW s.data.toList (k + m) = runTo isW s.data.toList k)) (fun i => s.size - k - (intOf i).toNat)
  case atStart => exact ⟨1, by omega, by omega, rfl, hgo⟩
  case round =>
    obtain ⟨m, hm1, hm, rfl, hr⟩ := hrel
    have hto : ((k : Int) + (m : Int)).toNat = k + m := by omega
    by_cases hlt : k + m < s.size
    · have hl2 : k + m < s.data.toList.length := by simpa using hlt
      have hget := list_get s (k + m) hlt hl2
      cases hp : isL s[k + m]
      · cases hq : isD s[k + m]
        · have HE : Hid (runTo isW s.data.toList (k + m) = k + m) := runTo_stop isW _ _ (fun h => by rw [hget]; simp [isW, hp, hq])
          have HP : Hid (isL s[k + m] = false) := hp
          have HQ : Hid (isD s[k + m] = false) := hq
          clear hp hq hget
          go_wp2_with fail
          refine (rletter_any _ _).mono ?_
          rintro e w ⟨rfl, rfl⟩
          rw [HP.out]
          go_wp2_with fail
          refine (rdigit_any _ _).mono ?_
          rintro e w ⟨rfl, rfl⟩
          rw [HQ.out]
          go_wp2
          go_ret2
          exact ⟨ret_two (by rw [← hr.out, HE.out, Nat.add_sub_cancel_left]), rfl⟩
        · have HE : Hid (runTo isW s.data.toList (k + m) = runTo isW s.data.toList (k + m + 1)) := runTo_go isW _ _ hl2 (by rw [hget]; simp [isW, hq])
          have HP : Hid (isL s[k + m] = false) := hp
          have HQ : Hid (isD s[k + m] = true) := hq
          clear hp hq hget
          go_wp2_with fail
          refine (rletter_any _ _).mono ?_
          rintro e w ⟨rfl, rfl⟩
          rw [HP.out]
          go_wp2_with fail
          refine (rdigit_any _ _).mono ?_
          rintro e w ⟨rfl, rfl⟩
          rw [HQ.out]
          go_wp2
          go_round
          case rel => exact ⟨m+1, by omega, by omega, by go_num, HE.out ▸ hr.out⟩
          case measure => simp [intOf]; omega
      · have HE : Hid (runTo isW s.data.toList (k + m) = runTo isW s.data.toList (k + m + 1)) := runTo_go isW _ _ hl2 (by rw [hget]; simp [isW, hp])
        have HP : Hid (isL s[k + m] = true) := hp
        clear hp hget
        go_wp2_with fail
        refine (rletter_any _ _).mono ?_
        rintro e w ⟨rfl, rfl⟩
        rw [HP.out]
        go_wp2
        go_round
        case rel => exact ⟨m+1, by omega, by omega, by go_num, HE.out ▸ hr.out⟩
        case measure => simp [intOf]; omega
    · have HE : Hid (runTo isW s.data.toList (k + m) = k + m) := runTo_stop isW _ _ (fun h => by simp at h; omega)
      go_wp2
      go_ret2
      exact ⟨ret_two (by rw [← hr.out, HE.out, Nat.add_sub_cancel_left]), rfl⟩

set_option maxHeartbeats 800000 in
set_option maxRecDepth 100000 in
theorem at_digit (s : ByteArray) (k : Nat) (hk : k < s.size) (hs : s.size ≤ maxLen) (w : World) (hL : isL s[k] = false) (hD : isD s[k] = true) :
    Calls Try.prog 29 #[.string s, .int .i64 k] w fun e w' => e = .returned (.tuple #[.int .i64 2, .int .i64 (runTo isD s.data.toList k - k : Nat)]) ∧ w' = w := by
  unfold maxLen at hs
  have hl : k < s.data.toList.length := by simpa using hk
  have hgo : Hid (runTo isD s.data.toList (k + 1) = runTo isD s.data.toList k) := (runTo_go isD _ k hl (by rw [list_get s k hk hl]; exact hD)).symm
  have HL : Hid (isL s[k] = false) := hL
  have HD : Hid (isD s[k] = true) := hD
  clear hL hD
  go_enter Try.func29, Try.ntmps29
  go_wp2_with fail
  refine (rletter_any _ _).mono ?_
  rintro e w ⟨rfl, rfl⟩
  rw [HL.out]
  go_wp2_with fail
  refine (rdigit_any _ _).mono ?_
  rintro e w ⟨rfl, rfl⟩
  rw [HD.out]
  go_wp2_with fail
  go_loop [7] (fun i => ∃ m : Nat, 1 ≤ m ∧ k + m ≤ s.size ∧ i = .int .i64 m ∧ Hid (runTo isD s.data.toList (k + m) = runTo isD s.data.toList k)) (fun i => s.size - k - (intOf i).toNat)
  case atStart => exact ⟨1, by omega, by omega, rfl, hgo⟩
  case round =>
    obtain ⟨m, hm1, hm, rfl, hr⟩ := hrel
    have hto : ((k : Int) + (m : Int)).toNat = k + m := by omega
    by_cases hlt : k + m < s.size
    · have hl2 : k + m < s.data.toList.length := by simpa using hlt
      have hget := list_get s (k + m) hlt hl2
      cases hp : isD s[k + m]
      · have HE : Hid (runTo isD s.data.toList (k + m) = k + m) := runTo_stop isD _ _ (fun h => by rw [hget]; exact hp)
        have HP : Hid (isD s[k + m] = false) := hp
        clear hp hget
        go_wp2_with fail
        refine (rdigit_any _ _).mono ?_
        rintro e w ⟨rfl, rfl⟩
        rw [HP.out]
        go_wp2
        go_ret2
        exact ⟨ret_two (by rw [← hr.out, HE.out, Nat.add_sub_cancel_left]), rfl⟩
      · have HE : Hid (runTo isD s.data.toList (k + m) = runTo isD s.data.toList (k + m + 1)) := runTo_go isD _ _ hl2 (by rw [hget]; exact hp)
        have HP : Hid (isD s[k + m] = true) := hp
        clear hp hget
        go_wp2_with fail
        refine (rdigit_any _ _).mono ?_
        rintro e w ⟨rfl, rfl⟩
        rw [HP.out]
        go_wp2
        go_round
        case rel => exact ⟨m+1, by omega, by omega, by go_num, HE.out ▸ hr.out⟩
        case measure => simp [intOf]; omega
    · have HE : Hid (runTo isD s.data.toList (k + m) = k + m) := runTo_stop isD _ _ (fun h => by simp at h; omega)
      go_wp2
      go_ret2
      exact ⟨ret_two (by rw [← hr.out, HE.out, Nat.add_sub_cancel_left]), rfl⟩

end Go.Proofs.Ytjbeggebnededaa
