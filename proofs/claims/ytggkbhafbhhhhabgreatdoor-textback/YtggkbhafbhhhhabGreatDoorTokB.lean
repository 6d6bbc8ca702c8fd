/-
  WALKS: token.skip, token.check, token.next.
-/
import Derived.Test.YtggkbhafbhhhhabGreatDoorTokA
namespace Go.Proofs.YtggkbhafbhhhhabGreatDoor
open Go.RowKit

set_option maxHeartbeats 800000 in
theorem skip_any (s : ByteArray) (k : Nat) (hk : k ≤ s.size) (hs : s.size ≤ maxLen) (w : World) :
    Calls Tryz.prog 37 #[.string s, .int .i64 k] w fun e w' => e = .returned (.int .i64 (skipTo false s.data.toList k)) ∧ w' = w := by
  have HS : Hid (s.size ≤ maxLen) := hs
  unfold maxLen at hs
  go_enter Tryz.func37, Tryz.ntmps37
  go_wp2
  go_loop [1] (fun i => ∃ m : Nat, m ≤ s.size ∧ i = .int .i64 m ∧ Hid (skipTo false s.data.toList m = skipTo false s.data.toList k)) (fun i => s.size - (intOf i).toNat)
  case atStart => exact ⟨k, hk, rfl, rfl⟩
  case round =>
    obtain ⟨m, hm, rfl, hr⟩ := hrel
    by_cases hlt : m < s.size
    · have hl : m < s.data.toList.length := by simpa using hlt
      have hget := list_get s m hlt hl
      cases h1 : ((s[m].toNat : Int) == 32)
      · cases h2 : ((s[m].toNat : Int) == 9)
        · cases h3 : ((s[m].toNat : Int) == 10)
          · cases h4 : ((s[m].toNat : Int) == 37)
            · have HE : Hid (skipTo false s.data.toList m = m) := skipTo_stop _ m hl (by rw [hget]; unfold isB; rw [h1, h2, h3]; rfl) (by rw [hget]; exact h4)
              clear hget
              go_wp2
              go_ret
              exact ⟨ret_int (by rw [← hr.out, HE.out]), rfl⟩
            · have HE : Hid (skipTo false s.data.toList m = skipTo false s.data.toList (runTo notNl s.data.toList m)) := skipTo_percent _ m hl (by rw [hget]; simpa using h4)
              have hg : m < runTo notNl s.data.toList m := runTo_gt _ _ _ hl (by rw [hget]; unfold notNl; rw [bne, h3]; rfl)
              have hle : runTo notNl s.data.toList m ≤ s.size := by simpa using (runTo_le notNl _ _ (Nat.le_of_lt hl)).2
              clear hget
              go_wp2_with fail
              refine (run_nl s m hm HS.out _).mono ?_
              rintro e w' ⟨rfl, rfl⟩
              go_wp2
              go_round
              case rel => exact ⟨_, hle, rfl, HE.out ▸ hr.out⟩
              case measure => simp [intOf]; omega
          · have HE : Hid (skipTo false s.data.toList m = skipTo false s.data.toList (m+1)) := skipTo_blank _ m hl (by rw [hget]; unfold isB; rw [h3]; simp)
            clear hget
            go_wp2
            go_round
            case rel => exact ⟨m+1, by omega, by go_num, HE.out ▸ hr.out⟩
            case measure => simp [intOf]; omega
        · have HE : Hid (skipTo false s.data.toList m = skipTo false s.data.toList (m+1)) := skipTo_blank _ m hl (by rw [hget]; unfold isB; rw [h2]; simp)
          clear hget
          go_wp2
          go_round
          case rel => exact ⟨m+1, by omega, by go_num, HE.out ▸ hr.out⟩
          case measure => simp [intOf]; omega
      · have HE : Hid (skipTo false s.data.toList m = skipTo false s.data.toList (m+1)) := skipTo_blank _ m hl (by rw [hget]; unfold isB; rw [h1]; simp)
        clear hget
        go_wp2
        go_round
        case rel => exact ⟨m+1, by omega, by go_num, HE.out ▸ hr.out⟩
        case measure => simp [intOf]; omega
    · have HE : Hid (skipTo false s.data.toList m = m) := skipTo_end _ _ m (by simpa using hlt)
      go_wp2
      go_ret
      exact ⟨ret_int (by rw [← hr.out, HE.out]), rfl⟩

set_option maxHeartbeats 400000 in
theorem check_any (kd a : Int) (t : ByteArray) (hs : t.size ≤ maxLen) (w : World) :
    Calls Tryz.prog 39 #[.agg #[.int .i64 kd, .int .i64 a, .string t]] w fun e w' => e = .returned (.int .i64 (errOf kd t)) ∧ Below w.heap.size w w' := by
  unfold maxLen at hs
  by_cases h0 : 0 < t.size
  · have hb : byteAt t.data.toList 0 = t[0] := by rw [byteAt_get _ _ (by simpa using h0)]; exact list_get t 0 h0 _
    go_enter Tryz.func39, Tryz.ntmps39
    go_wp2
    all_goals
      go_ret
      refine ⟨ret_int ?_, (Below.refl _ _).alloc (Nat.le_refl _) _⟩
      simp only [beq_iff_eq, beq_eq_false_iff_ne] at *
      unfold errOf
      repeat' split
      all_goals first | rfl | omega | (rw [hb] at *; omega)
  · go_enter Tryz.func39, Tryz.ntmps39
    go_wp2
    all_goals
      go_ret
      refine ⟨ret_int ?_, (Below.refl _ _).alloc (Nat.le_refl _) _⟩
      simp only [beq_iff_eq, beq_eq_false_iff_ne] at *
      unfold errOf
      repeat' split
      all_goals first | rfl | omega

theorem drop_data (s : ByteArray) (k : Nat) : (s.extract k s.size).data.toList = s.data.toList.drop k := by
  rw [ByteArray.data_extract, Array.toList_extract]
  simp only [List.extract_eq_take_drop]
  exact List.take_of_length_le (by simp)

set_option maxHeartbeats 400000 in
theorem next_letter (s : ByteArray) (k : Nat) (hk : k < s.size) (hs : s.size ≤ maxLen) (w : World) (hL : isL s[k] = true) :
    Calls Tryz.prog 38 #[.string s, .int .i64 k] w fun e w' => e = .returned (.agg #[.int .i64 1, .int .i64 k, .string (s.extract k (runTo isW s.data.toList k))]) ∧ Below w.heap.size w w' := by
  have HS : Hid (s.size ≤ maxLen) := hs
  unfold maxLen at hs
  have hl : k < s.data.toList.length := by simpa using hk
  have hle : k ≤ runTo isW s.data.toList k := (runTo_le isW _ _ (Nat.le_of_lt hl)).1
  have hle2 : runTo isW s.data.toList k ≤ s.size := by simpa using (runTo_le isW _ _ (Nat.le_of_lt hl)).2
  have HL : Hid (isL s[k] = true) := hL
  clear hL
  go_enter Tryz.func38, Tryz.ntmps38
  go_wp2_with fail
  refine (letter_any _ _).mono ?_
  rintro e w' ⟨rfl, rfl⟩
  rw [HL.out]
  go_wp2_with fail
  refine (run_word s k (by omega) HS.out _).mono ?_
  rintro e w' ⟨rfl, rfl⟩
  go_wp2
  exact bodyPost_ret (v := .agg #[.int .i64 1, .int .i64 k, .string (s.extract k (runTo isW s.data.toList k))]) (by simp [results, Tryz.results38, go_sem]) rfl ⟨rfl, (Below.refl _ _).alloc (Nat.le_refl _) _⟩

set_option maxHeartbeats 400000 in
theorem next_digit (s : ByteArray) (k : Nat) (hk : k < s.size) (hs : s.size ≤ maxLen) (w : World) (hL : isL s[k] = false) (hD : isD s[k] = true) :
    Calls Tryz.prog 38 #[.string s, .int .i64 k] w fun e w' => e = .returned (.agg #[.int .i64 2, .int .i64 k, .string (s.extract k (runTo isD s.data.toList k))]) ∧ Below w.heap.size w w' := by
  have HS : Hid (s.size ≤ maxLen) := hs
  unfold maxLen at hs
  have hl : k < s.data.toList.length := by simpa using hk
  have hle : k ≤ runTo isD s.data.toList k := (runTo_le isD _ _ (Nat.le_of_lt hl)).1
  have hle2 : runTo isD s.data.toList k ≤ s.size := by simpa using (runTo_le isD _ _ (Nat.le_of_lt hl)).2
  have HL : Hid (isL s[k] = false) := hL
  have HD : Hid (isD s[k] = true) := hD
  clear hL hD
  go_enter Tryz.func38, Tryz.ntmps38
  go_wp2_with fail
  refine (letter_any _ _).mono ?_
  rintro e w' ⟨rfl, rfl⟩
  rw [HL.out]
  go_wp2_with fail
  refine (digit_any _ _).mono ?_
  rintro e w' ⟨rfl, rfl⟩
  rw [HD.out]
  go_wp2_with fail
  refine (run_digit s k (by omega) HS.out _).mono ?_
  rintro e w' ⟨rfl, rfl⟩
  go_wp2
  exact bodyPost_ret (v := .agg #[.int .i64 2, .int .i64 k, .string (s.extract k (runTo isD s.data.toList k))]) (by simp [results, Tryz.results38, go_sem]) rfl ⟨rfl, (Below.refl _ _).alloc (Nat.le_refl _) _⟩

set_option maxHeartbeats 400000 in
theorem next_sign (s : ByteArray) (k g : Nat) (hk : k < s.size) (hs : s.size ≤ maxLen) (w : World) (hL : isL s[k] = false) (hD : isD s[k] = false)
    (hg : signN (s.data.toList.drop k) = g) (h0 : 0 < g) :
    Calls Tryz.prog 38 #[.string s, .int .i64 k] w fun e w' => e = .returned (.agg #[.int .i64 3, .int .i64 k, .string (s.extract k (k + g))]) ∧ Below w.heap.size w w' := by
  have hsz : (s.extract k s.size).size = s.size - k := size_extract _ _ _ (Nat.le_refl _)
  have HZ : Hid (0 < (s.extract k s.size).size ∧ (s.extract k s.size).size ≤ maxLen) := ⟨by omega, by omega⟩
  unfold maxLen at hs
  have hle : k + g ≤ s.size := by have := signN_le (s.data.toList.drop k) (by simp; omega); simp at this; omega
  have HL : Hid (isL s[k] = false) := hL
  have HD : Hid (isD s[k] = false) := hD
  have HG : Hid (signN (s.extract k s.size).data.toList = g) := by rw [drop_data]; exact hg
  clear hL hD hg hsz
  go_enter Tryz.func38, Tryz.ntmps38
  go_wp2_with fail
  refine (letter_any _ _).mono ?_
  rintro e w' ⟨rfl, rfl⟩
  rw [HL.out]
  go_wp2_with fail
  refine (digit_any _ _).mono ?_
  rintro e w' ⟨rfl, rfl⟩
  rw [HD.out]
  go_wp2_with fail
  refine (sign_any _ HZ.out.1 HZ.out.2 _).mono ?_
  rintro e w' ⟨rfl, rfl⟩
  rw [HG.out]
  go_wp2
  exact bodyPost_ret (v := .agg #[.int .i64 3, .int .i64 k, .string (s.extract k (k + g))]) (by simp [results, Tryz.results38, go_sem]) rfl ⟨rfl, (Below.refl _ _).alloc (Nat.le_refl _) _⟩

set_option maxHeartbeats 400000 in
theorem next_none (s : ByteArray) (k : Nat) (hk : k < s.size) (hs : s.size ≤ maxLen) (w : World) (hL : isL s[k] = false) (hD : isD s[k] = false)
    (hg : signN (s.data.toList.drop k) = 0) :
    Calls Tryz.prog 38 #[.string s, .int .i64 k] w fun e w' => e = .returned (.agg #[.int .i64 0, .int .i64 0, .string ByteArray.empty]) ∧ Below w.heap.size w w' := by
  have hsz : (s.extract k s.size).size = s.size - k := size_extract _ _ _ (Nat.le_refl _)
  have HZ : Hid (0 < (s.extract k s.size).size ∧ (s.extract k s.size).size ≤ maxLen) := ⟨by omega, by omega⟩
  unfold maxLen at hs
  have HL : Hid (isL s[k] = false) := hL
  have HD : Hid (isD s[k] = false) := hD
  have HG : Hid (signN (s.extract k s.size).data.toList = 0) := by rw [drop_data]; exact hg
  clear hL hD hg hsz
  go_enter Tryz.func38, Tryz.ntmps38
  go_wp2_with fail
  refine (letter_any _ _).mono ?_
  rintro e w' ⟨rfl, rfl⟩
  rw [HL.out]
  go_wp2_with fail
  refine (digit_any _ _).mono ?_
  rintro e w' ⟨rfl, rfl⟩
  rw [HD.out]
  go_wp2_with fail
  refine (sign_any _ HZ.out.1 HZ.out.2 _).mono ?_
  rintro e w' ⟨rfl, rfl⟩
  rw [HG.out]
  go_wp2
  exact bodyPost_ret (v := .agg #[.int .i64 0, .int .i64 0, .string ByteArray.empty]) (by simp [results, Tryz.results38, go_sem]; rfl) rfl ⟨rfl, (Below.refl _ _).alloc (Nat.le_refl _) _⟩

def tokV (t : Tok) : Value := .agg #[.int .i64 t.kind, .int .i64 t.place, .string t.text]

theorem next_any (s : ByteArray) (k : Nat) (hk : k < s.size) (hs : s.size ≤ maxLen) (w : World) :
    Calls Tryz.prog 38 #[.string s, .int .i64 k] w fun e w' => e = .returned (tokV (tokAt s k)) ∧ Below w.heap.size w w' := by
  have hl : k < s.data.toList.length := by simpa using hk
  have hb : byteAt s.data.toList k = s[k] := by rw [byteAt_get _ _ hl]; exact list_get s k hk _
  cases hL : isL s[k]
  · cases hD : isD s[k]
    · by_cases hg : signN (s.data.toList.drop k) = 0
      · have e1 : tokAt s k = ⟨0, 0, ByteArray.empty⟩ := by unfold tokAt kindOf; rw [hb, hL, hD, hg]; rfl
        rw [e1]; exact next_none s k hk hs w hL hD hg
      · have e1 : tokAt s k = ⟨3, k, s.extract k (k + signN (s.data.toList.drop k))⟩ := by
          unfold tokAt kindOf endOf; rw [hb, hL, hD]; simp [hg]
        rw [e1]; exact next_sign s k _ hk hs w hL hD rfl (by omega)
    · have e1 : tokAt s k = ⟨2, k, s.extract k (runTo isD s.data.toList k)⟩ := by
        unfold tokAt kindOf endOf; rw [hb, hL, hD]; simp
      rw [e1]; exact next_digit s k hk hs w hL hD
  · have e1 : tokAt s k = ⟨1, k, s.extract k (runTo isW s.data.toList k)⟩ := by
      unfold tokAt kindOf endOf; rw [hb, hL]; simp
    rw [e1]; exact next_letter s k hk hs w hL
end Go.Proofs.YtggkbhafbhhhhabGreatDoor
