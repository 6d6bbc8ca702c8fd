/-
  WALKS: the scanner's small functions (package token): which bytes go on, what parts tokens, signs, the next token and what is wrong with it.
-/
import Derived.Test.YtggkbhafbhhhhabGreatDoorRows
import Derived.Test.YtggkbhafbhhhhabGreatDoorTokPlain
import Derived.WalkKit
import Derived.WalkSpells
import Derived.WalkLawsBesides
namespace Go.Proofs.YtggkbhafbhhhhabGreatDoor
open Go.RowKit

theorem ret_int {k : IntKind} {a b : Int} (h : a = b) : Ending.returned (.int k a) = .returned (.int k b) := by rw [h]
theorem ret_bool {a b : Bool} (h : a = b) : Ending.returned (.bool a) = .returned (.bool b) := by rw [h]
theorem list_get (s : ByteArray) (k : Nat) (_h : k < s.size) (h' : k < s.data.toList.length) : s.data.toList[k] = s[k] := by rw [Array.getElem_toList]; rfl

set_option maxHeartbeats 400000 in
theorem nl_any (c : UInt8) (w : World) :
    Calls Tryz.prog 65 #[.int .u8 c.toNat] w fun e w' => e = .returned (.bool (notNl c)) ∧ w' = w := by
  unfold notNl
  go_enter Tryz.func65, Tryz.ntmps65
  go_wp2
  go_ret
  exact ⟨rfl, rfl⟩
set_option maxHeartbeats 400000 in
theorem letter_any (c : UInt8) (w : World) :
    Calls Tryz.prog 66 #[.int .u8 c.toNat] w fun e w' => e = .returned (.bool (isL c)) ∧ w' = w := by
  unfold isL
  go_enter Tryz.func66, Tryz.ntmps66
  go_wp2
  · go_ret; exact ⟨by simp [*], rfl⟩
  · go_ret; refine ⟨by rw [decide_eq_false (by omega)]; rfl, rfl⟩
set_option maxHeartbeats 400000 in
theorem digit_any (c : UInt8) (w : World) :
    Calls Tryz.prog 68 #[.int .u8 c.toNat] w fun e w' => e = .returned (.bool (isD c)) ∧ w' = w := by
  unfold isD
  go_enter Tryz.func68, Tryz.ntmps68
  go_wp2
  · go_ret; exact ⟨by simp [*], rfl⟩
  · go_ret; refine ⟨by rw [decide_eq_false (by omega)]; rfl, rfl⟩
set_option maxHeartbeats 400000 in
theorem word_any (c : UInt8) (w : World) :
    Calls Tryz.prog 67 #[.int .u8 c.toNat] w fun e w' => e = .returned (.bool (isW c)) ∧ w' = w := by
  unfold isW
  cases h : isL c
  all_goals
    go_enter Tryz.func67, Tryz.ntmps67
    go_wp2_with (first | (go_at_call 66; refine (letter_any _ _).mono ?_; rintro e w' ⟨rfl, rfl⟩; rw [h]) | (go_at_call 68; refine (digit_any _ _).mono ?_; rintro e w' ⟨rfl, rfl⟩))
    go_ret; exact ⟨by simp, rfl⟩

set_option maxHeartbeats 400000 in
theorem run_nl (s : ByteArray) (k : Nat) (hk : k ≤ s.size) (hs : s.size ≤ maxLen) (w : World) :
    Calls Tryz.prog 64 #[.string s, .int .i64 k, .func (.func 65) #[] #[]] w fun e w' => e = .returned (.int .i64 (runTo notNl s.data.toList k)) ∧ w' = w := by
  unfold maxLen at hs
  go_enter Tryz.func64, Tryz.ntmps64
  go_wp2
  go_loop [1] (fun i => ∃ m : Nat, m ≤ s.size ∧ i = .int .i64 m ∧ Hid (runTo notNl s.data.toList m = runTo notNl s.data.toList k)) (fun i => s.size - (intOf i).toNat)
  case atStart => exact ⟨k, hk, rfl, rfl⟩
  case round =>
    obtain ⟨m, hm, rfl, hr⟩ := hrel
    by_cases hlt : m < s.size
    · have hl : m < s.data.toList.length := by simpa using hlt
      have hget := list_get s m hlt hl
      cases hp : notNl s[m]
      · have HE : Hid (runTo notNl s.data.toList m = m) := runTo_stop notNl _ m (fun h => by rw [hget]; exact hp)
        have HP : Hid (notNl s[m] = false) := hp
        clear hp hget
        go_wp2_with fail
        refine (nl_any _ _).mono ?_
        rintro e w' ⟨rfl, rfl⟩
        rw [HP.out]
        go_wp2
        go_ret
        exact ⟨ret_int (by rw [← hr.out, HE.out]), rfl⟩
      · have HE : Hid (runTo notNl s.data.toList m = runTo notNl s.data.toList (m+1)) := runTo_go notNl _ m hl (by rw [hget]; exact hp)
        have HP : Hid (notNl s[m] = true) := hp
        clear hp hget
        go_wp2_with fail
        refine (nl_any _ _).mono ?_
        rintro e w' ⟨rfl, rfl⟩
        rw [HP.out]
        go_wp2
        go_round
        case rel => exact ⟨m+1, by omega, by go_num, HE.out ▸ hr.out⟩
        case measure => simp [intOf]; omega
    · have HE : Hid (runTo notNl s.data.toList m = m) := runTo_stop notNl _ m (fun h => by simp at h; omega)
      go_wp2
      go_ret
      exact ⟨ret_int (by rw [← hr.out, HE.out]), rfl⟩
set_option maxHeartbeats 400000 in
theorem run_word (s : ByteArray) (k : Nat) (hk : k ≤ s.size) (hs : s.size ≤ maxLen) (w : World) :
    Calls Tryz.prog 64 #[.string s, .int .i64 k, .func (.func 67) #[] #[]] w fun e w' => e = .returned (.int .i64 (runTo isW s.data.toList k)) ∧ w' = w := by
  unfold maxLen at hs
  go_enter Tryz.func64, Tryz.ntmps64
  go_wp2
  go_loop [1] (fun i => ∃ m : Nat, m ≤ s.size ∧ i = .int .i64 m ∧ Hid (runTo isW s.data.toList m = runTo isW s.data.toList k)) (fun i => s.size - (intOf i).toNat)
  case atStart => exact ⟨k, hk, rfl, rfl⟩
  case round =>
    obtain ⟨m, hm, rfl, hr⟩ := hrel
    by_cases hlt : m < s.size
    · have hl : m < s.data.toList.length := by simpa using hlt
      have hget := list_get s m hlt hl
      cases hp : isW s[m]
      · have HE : Hid (runTo isW s.data.toList m = m) := runTo_stop isW _ m (fun h => by rw [hget]; exact hp)
        have HP : Hid (isW s[m] = false) := hp
        clear hp hget
        go_wp2_with fail
        refine (word_any _ _).mono ?_
        rintro e w' ⟨rfl, rfl⟩
        rw [HP.out]
        go_wp2
        go_ret
        exact ⟨ret_int (by rw [← hr.out, HE.out]), rfl⟩
      · have HE : Hid (runTo isW s.data.toList m = runTo isW s.data.toList (m+1)) := runTo_go isW _ m hl (by rw [hget]; exact hp)
        have HP : Hid (isW s[m] = true) := hp
        clear hp hget
        go_wp2_with fail
        refine (word_any _ _).mono ?_
        rintro e w' ⟨rfl, rfl⟩
        rw [HP.out]
        go_wp2
        go_round
        case rel => exact ⟨m+1, by omega, by go_num, HE.out ▸ hr.out⟩
        case measure => simp [intOf]; omega
    · have HE : Hid (runTo isW s.data.toList m = m) := runTo_stop isW _ m (fun h => by simp at h; omega)
      go_wp2
      go_ret
      exact ⟨ret_int (by rw [← hr.out, HE.out]), rfl⟩
set_option maxHeartbeats 400000 in
theorem run_digit (s : ByteArray) (k : Nat) (hk : k ≤ s.size) (hs : s.size ≤ maxLen) (w : World) :
    Calls Tryz.prog 64 #[.string s, .int .i64 k, .func (.func 68) #[] #[]] w fun e w' => e = .returned (.int .i64 (runTo isD s.data.toList k)) ∧ w' = w := by
  unfold maxLen at hs
  go_enter Tryz.func64, Tryz.ntmps64
  go_wp2
  go_loop [1] (fun i => ∃ m : Nat, m ≤ s.size ∧ i = .int .i64 m ∧ Hid (runTo isD s.data.toList m = runTo isD s.data.toList k)) (fun i => s.size - (intOf i).toNat)
  case atStart => exact ⟨k, hk, rfl, rfl⟩
  case round =>
    obtain ⟨m, hm, rfl, hr⟩ := hrel
    by_cases hlt : m < s.size
    · have hl : m < s.data.toList.length := by simpa using hlt
      have hget := list_get s m hlt hl
      cases hp : isD s[m]
      · have HE : Hid (runTo isD s.data.toList m = m) := runTo_stop isD _ m (fun h => by rw [hget]; exact hp)
        have HP : Hid (isD s[m] = false) := hp
        clear hp hget
        go_wp2_with fail
        refine (digit_any _ _).mono ?_
        rintro e w' ⟨rfl, rfl⟩
        rw [HP.out]
        go_wp2
        go_ret
        exact ⟨ret_int (by rw [← hr.out, HE.out]), rfl⟩
      · have HE : Hid (runTo isD s.data.toList m = runTo isD s.data.toList (m+1)) := runTo_go isD _ m hl (by rw [hget]; exact hp)
        have HP : Hid (isD s[m] = true) := hp
        clear hp hget
        go_wp2_with fail
        refine (digit_any _ _).mono ?_
        rintro e w' ⟨rfl, rfl⟩
        rw [HP.out]
        go_wp2
        go_round
        case rel => exact ⟨m+1, by omega, by go_num, HE.out ▸ hr.out⟩
        case measure => simp [intOf]; omega
    · have HE : Hid (runTo isD s.data.toList m = m) := runTo_stop isD _ m (fun h => by simp at h; omega)
      go_wp2
      go_ret
      exact ⟨ret_int (by rw [← hr.out, HE.out]), rfl⟩

set_option maxHeartbeats 400000 in
theorem sign_any (t : ByteArray) (ht : 0 < t.size) (hs : t.size ≤ maxLen) (w : World) :
    Calls Tryz.prog 69 #[.string t] w fun e w' => e = .returned (.int .i64 (signN t.data.toList)) ∧ w' = w := by
  unfold maxLen at hs
  have he : (t.extract 0 2).toList = t.data.toList.take 2 := by rw [ByteArray.toList_eq]; simp
  have hb : byteAt t.data.toList 0 = t[0] := by rw [byteAt_get _ _ (by simpa using ht)]; exact list_get t 0 ht _
  by_cases h2 : 2 ≤ t.size
  · go_enter Tryz.func69, Tryz.ntmps69
    go_wp2
    all_goals (go_ret; refine ⟨ret_int ?_, rfl⟩; simp_all [signN, sign2, sign1])
  · have hn : sign2 t.data.toList = false := by
      cases h : sign2 t.data.toList
      · rfl
      · have := sign2_len _ h; simp at this; omega
    go_enter Tryz.func69, Tryz.ntmps69
    go_wp2
    all_goals (go_ret; refine ⟨ret_int ?_, rfl⟩; simp_all [signN, sign1])
end Go.Proofs.YtggkbhafbhhhhabGreatDoor
