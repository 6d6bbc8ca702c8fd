/-
  WALK: the reference's IsToken.
-/
import Derived.Test.YtjbeggebnededaaTokJ
namespace Go.Proofs.Ytjbeggebnededaa
open Go.RowKit

set_option maxHeartbeats 1600000 in
set_option maxRecDepth 100000 in
theorem istok_any (kind : Int) (s : ByteArray) (hs : s.size ≤ maxLen) (w : World) :
    Calls Try.prog 34 #[.int .i64 kind, .string s] w fun e w' => e = .returned (.bool (isTok kind s)) ∧ w' = w := by
  have HS : Hid (s.size ≤ maxLen) := hs
  unfold maxLen at hs
  by_cases h0 : 0 < s.size
  · have hem : s.toList.isEmpty = false := by
      rw [ByteArray.toList_eq]; cases h : s.data.toList with
      | nil => have := len_size s; rw [h] at this; simp at this; omega
      | cons a r => rfl
    have hne : ¬ s.toList = [] := by intro h; rw [h] at hem; cases hem
    by_cases h4 : s.size ≤ 4000
    · by_cases hk : kind = 0
      · have hA : isTok kind s = false := by unfold isTok; simp [hk]
        rw [hA]; subst hk
        go_enter Try.func34, Try.ntmps34
        go_wp2
        all_goals (go_ret; exact ⟨ret_bool (by first | rfl | (simp; done) | (simp; omega)), rfl⟩)
      · have hk0 : (kind == 0) = false := by simpa using hk
        have hl : 0 < s.data.toList.length := by rw [len_size]; exact h0
        have hend := (endOf_le _ 0 hl).2
        rw [len_size] at hend
        have hbx : byteAt s.data.toList 0 = s[0] := by rw [byteAt_get _ _ hl]; exact list_get s 0 h0 hl
        obtain ⟨K, hK⟩ : ∃ K, kindOf s.data.toList 0 = K := ⟨_, rfl⟩
        obtain ⟨N, hN⟩ : ∃ N, endOf s.data.toList 0 = N := ⟨_, rfl⟩
        have hkc := kind_cases s.data.toList 0
        rw [hK] at hkc
        rw [hN] at hend
        have hT : isTok kind s = (decide ((K : Int) = kind) && (decide (N = s.size) && decide (errOf kind s = 0))) := by
          unfold isTok; rw [hK, hN]; simp [h0, h4, hk]
        rw [hT]; clear hT
        have HKK : Hid (((kindOf s.data.toList 0 : Nat) : Int) = (K : Int)) := congrArg Nat.cast hK
        have HNN : Hid (((endOf s.data.toList 0 - 0 : Nat) : Int) = (N : Int)) := congrArg Nat.cast hN
        clear hK hN
        by_cases hkk : (K : Int) = kind
        · subst hkk
          by_cases hnn : N = s.size
          · subst hnn
            rcases hkc with rfl | rfl | rfl | rfl
            · exact absurd rfl hk
            · by_cases h12 : 12 < s.size
              · rw [show errOf ((1 : Nat) : Int) s = 2 from err1_long s h12]
                clear hbx hk hk0
                go_enter Try.func34, Try.ntmps34
                go_wp2_with fail
                refine (at_any s 0 h0 HS.out _).mono ?_
                rintro e w ⟨rfl, rfl⟩
                rw [HKK.out, HNN.out]
                go_wp2
                all_goals (go_ret; exact ⟨ret_bool (by first | rfl | (simp; done) | (simp; omega)), rfl⟩)
              · rw [show errOf ((1 : Nat) : Int) s = 0 from err1_ok s h12]
                clear hbx hk hk0
                go_enter Try.func34, Try.ntmps34
                go_wp2_with fail
                refine (at_any s 0 h0 HS.out _).mono ?_
                rintro e w ⟨rfl, rfl⟩
                rw [HKK.out, HNN.out]
                go_wp2
                all_goals (go_ret; exact ⟨ret_bool (by first | rfl | (simp; done) | (simp; omega)), rfl⟩)
            · by_cases h5 : 4 < s.size
              · rw [show errOf ((2 : Nat) : Int) s = 2 from err2_long s h5]
                clear hbx hk hk0
                go_enter Try.func34, Try.ntmps34
                go_wp2_with fail
                refine (at_any s 0 h0 HS.out _).mono ?_
                rintro e w ⟨rfl, rfl⟩
                rw [HKK.out, HNN.out]
                go_wp2
                all_goals (go_ret; exact ⟨ret_bool (by first | rfl | (simp; done) | (simp; omega)), rfl⟩)
              · by_cases h1 : 1 < s.size
                · cases hc : ((s[0].toNat : Int) == 48)
                  · rw [show errOf ((2 : Nat) : Int) s = 0 from err2_ok s h5 (fun _ => by rw [hbx]; simpa using hc)]
                    clear hbx hk hk0
                    go_enter Try.func34, Try.ntmps34
                    go_wp2_with fail
                    refine (at_any s 0 h0 HS.out _).mono ?_
                    rintro e w ⟨rfl, rfl⟩
                    rw [HKK.out, HNN.out]
                    go_wp2
                    all_goals (go_ret; exact ⟨ret_bool (by first | rfl | (simp; done) | (simp; omega)), rfl⟩)
                  · rw [show errOf ((2 : Nat) : Int) s = 1 from err2_nought s h5 h1 (by rw [hbx]; simpa using hc)]
                    clear hbx hk hk0
                    go_enter Try.func34, Try.ntmps34
                    go_wp2_with fail
                    refine (at_any s 0 h0 HS.out _).mono ?_
                    rintro e w ⟨rfl, rfl⟩
                    rw [HKK.out, HNN.out]
                    go_wp2
                    all_goals (go_ret; exact ⟨ret_bool (by first | rfl | (simp; done) | (simp; omega)), rfl⟩)
                · rw [show errOf ((2 : Nat) : Int) s = 0 from err2_ok s h5 (fun h => absurd h h1)]
                  clear hbx hk hk0
                  go_enter Try.func34, Try.ntmps34
                  go_wp2_with fail
                  refine (at_any s 0 h0 HS.out _).mono ?_
                  rintro e w ⟨rfl, rfl⟩
                  rw [HKK.out, HNN.out]
                  go_wp2
                  all_goals (go_ret; exact ⟨ret_bool (by first | rfl | (simp; done) | (simp; omega)), rfl⟩)
            · rw [show errOf ((3 : Nat) : Int) s = 0 from err3_ok s]
              clear hbx hk hk0
              go_enter Try.func34, Try.ntmps34
              go_wp2_with fail
              refine (at_any s 0 h0 HS.out _).mono ?_
              rintro e w ⟨rfl, rfl⟩
              rw [HKK.out, HNN.out]
              go_wp2
              all_goals (go_ret; exact ⟨ret_bool (by first | rfl | (simp; done) | (simp; omega)), rfl⟩)
          · have hnf : ((N : Int) == (s.size : Int)) = false := by simpa using (show ¬ (N : Int) = (s.size : Int) by omega)
            rw [decide_eq_false hnn]
            clear hbx
            go_enter Try.func34, Try.ntmps34
            go_wp2_with fail
            refine (at_any s 0 h0 HS.out _).mono ?_
            rintro e w ⟨rfl, rfl⟩
            rw [HKK.out, HNN.out]
            go_wp2
            all_goals (go_ret; exact ⟨ret_bool (by first | rfl | (simp; done) | (simp; omega)), rfl⟩)
        · have hkf : ((K : Int) == kind) = false := by simpa using hkk
          rw [decide_eq_false hkk]
          clear hbx
          go_enter Try.func34, Try.ntmps34
          go_wp2_with fail
          refine (at_any s 0 h0 HS.out _).mono ?_
          rintro e w ⟨rfl, rfl⟩
          rw [HKK.out, HNN.out]
          go_wp2
          all_goals (go_ret; exact ⟨ret_bool (by first | rfl | (simp; done) | (simp; omega)), rfl⟩)
    · have hA : isTok kind s = false := by unfold isTok; simp [h4]
      rw [hA]
      go_enter Try.func34, Try.ntmps34
      go_wp2
      all_goals (go_ret; exact ⟨ret_bool (by first | rfl | (simp; done) | (simp; omega)), rfl⟩)
  · have hA : isTok kind s = false := by unfold isTok; simp [h0]
    have hem : s.toList = [] := by
      rw [ByteArray.toList_eq]; apply List.eq_nil_of_length_eq_zero; rw [len_size]; omega
    rw [hA]
    go_enter Try.func34, Try.ntmps34
    go_wp2
    all_goals (go_ret; exact ⟨ret_bool (by first | rfl | (simp; done) | (simp; omega)), rfl⟩)
end Go.Proofs.Ytjbeggebnededaa
