/-
  PART 1 of what the proof leans on (TokPlain, TokA, TokB, TokC, TokS, ModPlain, TxtPlain, ModMem, FrA, TxtA).
-/
import Derived.Test.YtdjbejlbmaiocabGreatDoorRows
import Derived.WalkKit
import Derived.WalkSpells
import Derived.WalkLawsBesides
import Derived.Deep.QuietTactic
import Derived.BigQuiet
import Derived.Defers
import Derived.Recover
/-
  PLAIN: what the scanner's functions come to, as functions on bytes; no program in it.
-/
namespace Go.Proofs.YtdjbejlbmaiocabGreatDoor

structure Tok where
  kind : Int
  place : Int
  text : ByteArray

def isL (c : UInt8) : Bool := decide (97 ≤ (c.toNat : Int)) && decide ((c.toNat : Int) ≤ 122)
def isD (c : UInt8) : Bool := decide (48 ≤ (c.toNat : Int)) && decide ((c.toNat : Int) ≤ 57)
def isW (c : UInt8) : Bool := isL c || isD c
def notNl (c : UInt8) : Bool := (c.toNat : Int) != 10
def isB (c : UInt8) : Bool := (c.toNat : Int) == 32 || ((c.toNat : Int) == 9 || (c.toNat : Int) == 10)
def runTo (p : UInt8 → Bool) (l : List UInt8) (k : Nat) : Nat := k + ((l.drop k).takeWhile p).length
def byteAt (l : List UInt8) (k : Nat) : UInt8 := l.getD k 0

theorem runTo_stop (p : UInt8 → Bool) (l : List UInt8) (k : Nat) (h : ∀ h : k < l.length, p l[k] = false) : runTo p l k = k := by
  unfold runTo
  by_cases hk : k < l.length
  · rw [List.drop_eq_getElem_cons hk, List.takeWhile_cons, h hk]; simp
  · rw [List.drop_eq_nil_of_le (by omega)]; simp
theorem runTo_go (p : UInt8 → Bool) (l : List UInt8) (k : Nat) (hk : k < l.length) (h : p l[k] = true) : runTo p l k = runTo p l (k+1) := by
  unfold runTo
  rw [List.drop_eq_getElem_cons hk, List.takeWhile_cons, h]; simp; omega
theorem takeWhile_le (p : UInt8 → Bool) (l : List UInt8) : (l.takeWhile p).length ≤ l.length := by
  induction l with
  | nil => simp
  | cons a r ih => rw [List.takeWhile_cons]; split <;> simp; omega
theorem runTo_le (p : UInt8 → Bool) (l : List UInt8) (k : Nat) (hk : k ≤ l.length) : k ≤ runTo p l k ∧ runTo p l k ≤ l.length := by
  unfold runTo
  have := takeWhile_le p (l.drop k)
  simp at this
  omega
theorem runTo_gt (p : UInt8 → Bool) (l : List UInt8) (k : Nat) (hk : k < l.length) (h : p l[k] = true) : k < runTo p l k := by
  rw [runTo_go p l k hk h]; have := runTo_le p l (k+1) (by omega); omega

/-- How many bytes part tokens, from here on; in a note or not. -/
def skipN : Bool → List UInt8 → Nat
  | _, [] => 0
  | note, c :: r => if note || (c.toNat : Int) == 37 then 1 + skipN (notNl c) r else if isB c then 1 + skipN false r else 0

theorem skipN_le (b : Bool) (l : List UInt8) : skipN b l ≤ l.length := by
  induction l generalizing b with
  | nil => simp [skipN]
  | cons c r ih =>
    unfold skipN
    split
    · have := ih (notNl c); simp; omega
    · split
      · have := ih false; simp; omega
      · simp
theorem skipN_note (l : List UInt8) : skipN true l = (l.takeWhile notNl).length + skipN false (l.drop (l.takeWhile notNl).length) := by
  induction l with
  | nil => simp [skipN]
  | cons c r ih =>
    rw [List.takeWhile_cons]
    cases h : notNl c
    · have h10 : (c.toNat : Int) = 10 := by simpa [notNl] using h
      simp only [Bool.false_eq_true, if_false, List.length_nil, Nat.zero_add, List.drop_zero]
      simp [skipN, h, h10, isB]
    · simp only [if_true, List.length_cons, List.drop_succ_cons]
      simp only [skipN, Bool.true_or, if_true, h]
      rw [ih]; omega

def skipTo (b : Bool) (l : List UInt8) (k : Nat) : Nat := k + skipN b (l.drop k)
theorem skipTo_le (b : Bool) (l : List UInt8) (k : Nat) (hk : k ≤ l.length) : k ≤ skipTo b l k ∧ skipTo b l k ≤ l.length := by
  unfold skipTo
  have := skipN_le b (l.drop k)
  simp at this
  omega
theorem skipTo_end (b : Bool) (l : List UInt8) (k : Nat) (hk : ¬ k < l.length) : skipTo b l k = k := by
  unfold skipTo; rw [List.drop_eq_nil_of_le (by omega)]; simp [skipN]
theorem skipTo_blank (l : List UInt8) (k : Nat) (hk : k < l.length) (h : isB l[k] = true) : skipTo false l k = skipTo false l (k+1) := by
  unfold skipTo
  have h37 : ((l[k].toNat : Int) == 37) = false := by
    simp only [isB, Bool.or_eq_true, beq_iff_eq] at h
    simp only [beq_eq_false_iff_ne]; omega
  rw [List.drop_eq_getElem_cons hk]
  simp only [skipN, h37, h, Bool.false_or, Bool.false_eq_true, if_false, if_true]; omega
theorem skipTo_note (b : Bool) (l : List UInt8) (k : Nat) (hk : k < l.length) (h : (b || (l[k].toNat : Int) == 37) = true) : skipTo b l k = skipTo (notNl l[k]) l (k+1) := by
  unfold skipTo
  rw [List.drop_eq_getElem_cons hk]
  simp only [skipN, h, if_true]; omega
theorem skipTo_percent (l : List UInt8) (k : Nat) (hk : k < l.length) (h : (l[k].toNat : Int) = 37) : skipTo false l k = skipTo false l (runTo notNl l k) := by
  have hn : notNl l[k] = true := by unfold notNl; rw [h]; decide
  rw [skipTo_note false l k hk (by simp [h]), runTo_go notNl l k hk hn, hn]
  unfold skipTo runTo
  rw [skipN_note, List.drop_drop]; omega
theorem skipTo_stop (l : List UInt8) (k : Nat) (hk : k < l.length) (h : isB l[k] = false) (h37 : ((l[k].toNat : Int) == 37) = false) : skipTo false l k = k := by
  unfold skipTo
  rw [List.drop_eq_getElem_cons hk]
  simp [skipN, h, h37]

/-- How long the sign at a text's beginning is; 0: there is none. -/
def sign2 (l : List UInt8) : Bool := (l.take 2 == [46, 46]) || ((l.take 2 == [60, 61]) || ((l.take 2 == [62, 61]) || ((l.take 2 == [61, 61]) || (l.take 2 == [33, 61]))))
def sign1 (c : UInt8) : Bool := ((c.toNat : Int) == 91) || (((c.toNat : Int) == 93) || (((c.toNat : Int) == 59) || (((c.toNat : Int) == 58) || (((c.toNat : Int) == 44) || ((c.toNat : Int) == 45)))))
def signN (l : List UInt8) : Nat := if sign2 l then 2 else if sign1 (byteAt l 0) then 1 else 0
theorem sign2_len (l : List UInt8) (h : sign2 l = true) : 2 ≤ l.length := by
  have : (l.take 2).length = 2 := by
    simp only [sign2, Bool.or_eq_true, beq_iff_eq] at h
    rcases h with h | h | h | h | h <;> rw [h] <;> rfl
  simp at this; omega
theorem signN_le (l : List UInt8) (h : 0 < l.length) : signN l ≤ l.length := by
  unfold signN
  split
  · exact sign2_len l ‹_›
  · split <;> omega

/-- The kind of the token that begins at a place, and where it ends; kind 0: none does. -/
def kindOf (l : List UInt8) (k : Nat) : Nat :=
  if isL (byteAt l k) then 1 else if isD (byteAt l k) then 2 else if signN (l.drop k) = 0 then 0 else 3
def endOf (l : List UInt8) (k : Nat) : Nat :=
  if isL (byteAt l k) then runTo isW l k else if isD (byteAt l k) then runTo isD l k else k + signN (l.drop k)
theorem byteAt_get (l : List UInt8) (k : Nat) (hk : k < l.length) : byteAt l k = l[k] := by simp [byteAt, hk]
theorem endOf_le (l : List UInt8) (k : Nat) (hk : k < l.length) : k ≤ endOf l k ∧ endOf l k ≤ l.length := by
  unfold endOf
  split
  · exact runTo_le _ _ _ (by omega)
  · split
    · exact runTo_le _ _ _ (by omega)
    · have := signN_le (l.drop k) (by simp; omega); simp at this; omega
theorem endOf_gt (l : List UInt8) (k : Nat) (hk : k < l.length) (h : kindOf l k ≠ 0) : k < endOf l k := by
  unfold kindOf at h; unfold endOf
  rw [byteAt_get l k hk] at *
  split
  · refine runTo_gt _ _ _ hk ?_; rename_i h1; simp [isW, h1]
  · split
    · exact runTo_gt _ _ _ hk ‹_›
    · rename_i h1 h2; simp [h1, h2] at h; omega

def tokAt (s : ByteArray) (k : Nat) : Tok :=
  if kindOf s.data.toList k = 0 then ⟨0, 0, ByteArray.empty⟩ else ⟨kindOf s.data.toList k, k, s.extract k (endOf s.data.toList k)⟩
def errOf (kind : Int) (t : ByteArray) : Int :=
  if kind = 1 then (if 12 < t.size then 2 else 0) else if kind = 2 then (if 4 < t.size then 2 else if 1 < t.size ∧ ((byteAt t.data.toList 0).toNat : Int) = 48 then 1 else 0) else if kind = 3 then 0 else 1

/-- The scan: what is gathered, the place, the error. -/
def scanF : Nat → ByteArray → Nat → List Tok → List Tok × Nat × Int
  | 0, _, _, acc => (acc, 0, 0)
  | f + 1, s, k, acc =>
    if skipTo false s.data.toList k < s.size then
      if errOf (tokAt s (skipTo false s.data.toList k)).kind (tokAt s (skipTo false s.data.toList k)).text = 0 then
        scanF f s (endOf s.data.toList (skipTo false s.data.toList k)) (acc ++ [tokAt s (skipTo false s.data.toList k)])
      else ([], skipTo false s.data.toList k, errOf (tokAt s (skipTo false s.data.toList k)).kind (tokAt s (skipTo false s.data.toList k)).text)
    else (acc, 0, 0)
def scanOf (s : ByteArray) : List Tok × Nat × Int := if 4000 < s.size then ([], 0, 2) else scanF (s.size + 1) s 0 []

theorem scanF_end (f : Nat) (s : ByteArray) (k : Nat) (acc : List Tok) (h : ¬ skipTo false s.data.toList k < s.size) : scanF f s k acc = (acc, 0, 0) := by
  cases f with
  | zero => rfl
  | succ f => rw [scanF, if_neg h]
theorem scanF_err (f : Nat) (s : ByteArray) (k j : Nat) (acc : List Tok) (hj : skipTo false s.data.toList k = j) (h : j < s.size) (he : errOf (tokAt s j).kind (tokAt s j).text ≠ 0) :
    scanF (f + 1) s k acc = ([], j, errOf (tokAt s j).kind (tokAt s j).text) := by
  rw [scanF, hj, if_pos h, if_neg he]
theorem scanF_next (f : Nat) (s : ByteArray) (k j : Nat) (acc : List Tok) (hj : skipTo false s.data.toList k = j) (h : j < s.size) (he : errOf (tokAt s j).kind (tokAt s j).text = 0) :
    scanF (f + 1) s k acc = scanF f s (endOf s.data.toList j) (acc ++ [tokAt s j]) := by
  rw [scanF, hj, if_pos h, if_pos he]
theorem kind_of_ok (s : ByteArray) (j : Nat) (he : errOf (tokAt s j).kind (tokAt s j).text = 0) : kindOf s.data.toList j ≠ 0 := by
  intro h
  unfold tokAt at he
  rw [if_pos h] at he
  simp [errOf] at he
theorem size_extract (s : ByteArray) (a b : Nat) (h : b ≤ s.size) : (s.extract a b).size = b - a := by
  simp [ByteArray.size_extract]; omega

end Go.Proofs.YtdjbejlbmaiocabGreatDoor
/-
  WALKS: the scanner's small functions (package token): which bytes go on, what parts tokens, signs, the next token and what is wrong with it.
-/
namespace Go.Proofs.YtdjbejlbmaiocabGreatDoor
open Go.RowKit

theorem ret_int {k : IntKind} {a b : Int} (h : a = b) : Ending.returned (.int k a) = .returned (.int k b) := by rw [h]
theorem ret_bool {a b : Bool} (h : a = b) : Ending.returned (.bool a) = .returned (.bool b) := by rw [h]
theorem list_get (s : ByteArray) (k : Nat) (_h : k < s.size) (h' : k < s.data.toList.length) : s.data.toList[k] = s[k] := by rw [Array.getElem_toList]; rfl

set_option maxHeartbeats 400000 in
theorem nl_any (c : UInt8) (w : World) :
    Calls Tryz.prog 65 #[.int .u8 c.toNat] w fun e w' => e = .returned (.bool (notNl c)) ∧ w' = w := by
  unfold notNl
  go_enter Tryz.func65, Tryz.ntmps65
  go_wp2
  go_ret
  exact ⟨rfl, rfl⟩
set_option maxHeartbeats 400000 in
theorem letter_any (c : UInt8) (w : World) :
    Calls Tryz.prog 66 #[.int .u8 c.toNat] w fun e w' => e = .returned (.bool (isL c)) ∧ w' = w := by
  unfold isL
  go_enter Tryz.func66, Tryz.ntmps66
  go_wp2
  · go_ret; exact ⟨by simp [*], rfl⟩
  · go_ret; refine ⟨by rw [decide_eq_false (by omega)]; rfl, rfl⟩
set_option maxHeartbeats 400000 in
theorem digit_any (c : UInt8) (w : World) :
    Calls Tryz.prog 68 #[.int .u8 c.toNat] w fun e w' => e = .returned (.bool (isD c)) ∧ w' = w := by
  unfold isD
  go_enter Tryz.func68, Tryz.ntmps68
  go_wp2
  · go_ret; exact ⟨by simp [*], rfl⟩
  · go_ret; refine ⟨by rw [decide_eq_false (by omega)]; rfl, rfl⟩
set_option maxHeartbeats 400000 in
theorem word_any (c : UInt8) (w : World) :
    Calls Tryz.prog 67 #[.int .u8 c.toNat] w fun e w' => e = .returned (.bool (isW c)) ∧ w' = w := by
  unfold isW
  cases h : isL c
  all_goals
    go_enter Tryz.func67, Tryz.ntmps67
    go_wp2_with (first | (go_at_call 66; refine (letter_any _ _).mono ?_; rintro e w' ⟨rfl, rfl⟩; rw [h]) | (go_at_call 68; refine (digit_any _ _).mono ?_; rintro e w' ⟨rfl, rfl⟩))
    go_ret; exact ⟨by simp, rfl⟩

set_option maxHeartbeats 400000 in
theorem run_nl (s : ByteArray) (k : Nat) (hk : k ≤ s.size) (hs : s.size ≤ maxLen) (w : World) :
    Calls Tryz.prog 64 #[.string s, .int .i64 k, .func (.func 65) #[] #[]] w fun e w' => e = .returned (.int .i64 (runTo notNl s.data.toList k)) ∧ w' = w := by
  unfold maxLen at hs
  go_enter Tryz.func64, Tryz.ntmps64
  go_wp2
  go_loop [1] (fun i => ∃ m : Nat, m ≤ s.size ∧ i = .int .i64 m ∧ Hid (runTo notNl s.data.toList m = runTo notNl s.data.toList k)) (fun i => s.size - (intOf i).toNat)
  case atStart => exact ⟨k, hk, rfl, rfl⟩
  case round =>
    obtain ⟨m, hm, rfl, hr⟩ := hrel
    by_cases hlt : m < s.size
    · have hl : m < s.data.toList.length := by simpa using hlt
      have hget := list_get s m hlt hl
      cases hp : notNl s[m]
      · have HE : Hid (runTo notNl s.data.toList m = m) := runTo_stop notNl _ m (fun h => by rw [hget]; exact hp)
        have HP : Hid (notNl s[m] = false) := hp
        clear hp hget
        go_wp2_with fail
        refine (nl_any _ _).mono ?_
        rintro e w' ⟨rfl, rfl⟩
        rw [HP.out]
        go_wp2
        go_ret
        exact ⟨ret_int (by rw [← hr.out, HE.out]), rfl⟩
      · have HE : Hid (runTo notNl s.data.toList m = runTo notNl s.data.toList (m+1)) := runTo_go notNl _ m hl (by rw [hget]; exact hp)
        have HP : Hid (notNl s[m] = true) := hp
        clear hp hget
        go_wp2_with fail
        refine (nl_any _ _).mono ?_
        rintro e w' ⟨rfl, rfl⟩
        rw [HP.out]
        go_wp2
        go_round
        case rel => exact ⟨m+1, by omega, by go_num, HE.out ▸ hr.out⟩
        case measure => simp [intOf]; omega
    · have HE : Hid (runTo notNl s.data.toList m = m) := runTo_stop notNl _ m (fun h => by simp at h; omega)
      go_wp2
      go_ret
      exact ⟨ret_int (by rw [← hr.out, HE.out]), rfl⟩
set_option maxHeartbeats 400000 in
theorem run_word (s : ByteArray) (k : Nat) (hk : k ≤ s.size) (hs : s.size ≤ maxLen) (w : World) :
    Calls Tryz.prog 64 #[.string s, .int .i64 k, .func (.func 67) #[] #[]] w fun e w' => e = .returned (.int .i64 (runTo isW s.data.toList k)) ∧ w' = w := by
  unfold maxLen at hs
  go_enter Tryz.func64, Tryz.ntmps64
  go_wp2
  go_loop [1] (fun i => ∃ m : Nat, m ≤ s.size ∧ i = .int .i64 m ∧ Hid (runTo isW s.data.toList m = runTo isW s.data.toList k)) (fun i => s.size - (intOf i).toNat)
  case atStart => exact ⟨k, hk, rfl, rfl⟩
  case round =>
    obtain ⟨m, hm, rfl, hr⟩ := hrel
    by_cases hlt : m < s.size
    · have hl : m < s.data.toList.length := by simpa using hlt
      have hget := list_get s m hlt hl
      cases hp : isW s[m]
      · have HE : Hid (runTo isW s.data.toList m = m) := runTo_stop isW _ m (fun h => by rw [hget]; exact hp)
        have HP : Hid (isW s[m] = false) := hp
        clear hp hget
        go_wp2_with fail
        refine (word_any _ _).mono ?_
        rintro e w' ⟨rfl, rfl⟩
        rw [HP.out]
        go_wp2
        go_ret
        exact ⟨ret_int (by rw [← hr.out, HE.out]), rfl⟩
      · have HE : Hid (runTo isW s.data.toList m = runTo isW s.data.toList (m+1)) := runTo_go isW _ m hl (by rw [hget]; exact hp)
        have HP : Hid (isW s[m] = true) := hp
        clear hp hget
        go_wp2_with fail
        refine (word_any _ _).mono ?_
        rintro e w' ⟨rfl, rfl⟩
        rw [HP.out]
        go_wp2
        go_round
        case rel => exact ⟨m+1, by omega, by go_num, HE.out ▸ hr.out⟩
        case measure => simp [intOf]; omega
    · have HE : Hid (runTo isW s.data.toList m = m) := runTo_stop isW _ m (fun h => by simp at h; omega)
      go_wp2
      go_ret
      exact ⟨ret_int (by rw [← hr.out, HE.out]), rfl⟩
set_option maxHeartbeats 400000 in
theorem run_digit (s : ByteArray) (k : Nat) (hk : k ≤ s.size) (hs : s.size ≤ maxLen) (w : World) :
    Calls Tryz.prog 64 #[.string s, .int .i64 k, .func (.func 68) #[] #[]] w fun e w' => e = .returned (.int .i64 (runTo isD s.data.toList k)) ∧ w' = w := by
  unfold maxLen at hs
  go_enter Tryz.func64, Tryz.ntmps64
  go_wp2
  go_loop [1] (fun i => ∃ m : Nat, m ≤ s.size ∧ i = .int .i64 m ∧ Hid (runTo isD s.data.toList m = runTo isD s.data.toList k)) (fun i => s.size - (intOf i).toNat)
  case atStart => exact ⟨k, hk, rfl, rfl⟩
  case round =>
    obtain ⟨m, hm, rfl, hr⟩ := hrel
    by_cases hlt : m < s.size
    · have hl : m < s.data.toList.length := by simpa using hlt
      have hget := list_get s m hlt hl
      cases hp : isD s[m]
      · have HE : Hid (runTo isD s.data.toList m = m) := runTo_stop isD _ m (fun h => by rw [hget]; exact hp)
        have HP : Hid (isD s[m] = false) := hp
        clear hp hget
        go_wp2_with fail
        refine (digit_any _ _).mono ?_
        rintro e w' ⟨rfl, rfl⟩
        rw [HP.out]
        go_wp2
        go_ret
        exact ⟨ret_int (by rw [← hr.out, HE.out]), rfl⟩
      · have HE : Hid (runTo isD s.data.toList m = runTo isD s.data.toList (m+1)) := runTo_go isD _ m hl (by rw [hget]; exact hp)
        have HP : Hid (isD s[m] = true) := hp
        clear hp hget
        go_wp2_with fail
        refine (digit_any _ _).mono ?_
        rintro e w' ⟨rfl, rfl⟩
        rw [HP.out]
        go_wp2
        go_round
        case rel => exact ⟨m+1, by omega, by go_num, HE.out ▸ hr.out⟩
        case measure => simp [intOf]; omega
    · have HE : Hid (runTo isD s.data.toList m = m) := runTo_stop isD _ m (fun h => by simp at h; omega)
      go_wp2
      go_ret
      exact ⟨ret_int (by rw [← hr.out, HE.out]), rfl⟩

set_option maxHeartbeats 400000 in
theorem sign_any (t : ByteArray) (ht : 0 < t.size) (hs : t.size ≤ maxLen) (w : World) :
    Calls Tryz.prog 69 #[.string t] w fun e w' => e = .returned (.int .i64 (signN t.data.toList)) ∧ w' = w := by
  unfold maxLen at hs
  have he : (t.extract 0 2).toList = t.data.toList.take 2 := by rw [ByteArray.toList_eq]; simp
  have hb : byteAt t.data.toList 0 = t[0] := by rw [byteAt_get _ _ (by simpa using ht)]; exact list_get t 0 ht _
  by_cases h2 : 2 ≤ t.size
  · go_enter Tryz.func69, Tryz.ntmps69
    go_wp2
    all_goals (go_ret; refine ⟨ret_int ?_, rfl⟩; simp_all [signN, sign2, sign1])
  · have hn : sign2 t.data.toList = false := by
      cases h : sign2 t.data.toList
      · rfl
      · have := sign2_len _ h; simp at this; omega
    go_enter Tryz.func69, Tryz.ntmps69
    go_wp2
    all_goals (go_ret; refine ⟨ret_int ?_, rfl⟩; simp_all [signN, sign1])
end Go.Proofs.YtdjbejlbmaiocabGreatDoor
/-
  WALKS: token.skip, token.check, token.next.
-/
namespace Go.Proofs.YtdjbejlbmaiocabGreatDoor
open Go.RowKit

set_option maxHeartbeats 800000 in
theorem skip_any (s : ByteArray) (k : Nat) (hk : k ≤ s.size) (hs : s.size ≤ maxLen) (w : World) :
    Calls Tryz.prog 37 #[.string s, .int .i64 k] w fun e w' => e = .returned (.int .i64 (skipTo false s.data.toList k)) ∧ w' = w := by
  have HS : Hid (s.size ≤ maxLen) := hs
  unfold maxLen at hs
  go_enter Tryz.func37, Tryz.ntmps37
  go_wp2
  go_loop [1] (fun i => ∃ m : Nat, m ≤ s.size ∧ i = .int .i64 m ∧ Hid (skipTo false s.data.toList m = skipTo false s.data.toList k)) (fun i => s.size - (intOf i).toNat)
  case atStart => exact ⟨k, hk, rfl, rfl⟩
  case round =>
    obtain ⟨m, hm, rfl, hr⟩ := hrel
    by_cases hlt : m < s.size
    · have hl : m < s.data.toList.length := by simpa using hlt
      have hget := list_get s m hlt hl
      cases h1 : ((s[m].toNat : Int) == 32)
      · cases h2 : ((s[m].toNat : Int) == 9)
        · cases h3 : ((s[m].toNat : Int) == 10)
          · cases h4 : ((s[m].toNat : Int) == 37)
            · have HE : Hid (skipTo false s.data.toList m = m) := skipTo_stop _ m hl (by rw [hget]; unfold isB; rw [h1, h2, h3]; rfl) (by rw [hget]; exact h4)
              clear hget
              go_wp2
              go_ret
              exact ⟨ret_int (by rw [← hr.out, HE.out]), rfl⟩
            · have HE : Hid (skipTo false s.data.toList m = skipTo false s.data.toList (runTo notNl s.data.toList m)) := skipTo_percent _ m hl (by rw [hget]; simpa using h4)
              have hg : m < runTo notNl s.data.toList m := runTo_gt _ _ _ hl (by rw [hget]; unfold notNl; rw [bne, h3]; rfl)
              have hle : runTo notNl s.data.toList m ≤ s.size := by simpa using (runTo_le notNl _ _ (Nat.le_of_lt hl)).2
              clear hget
              go_wp2_with fail
              refine (run_nl s m hm HS.out _).mono ?_
              rintro e w' ⟨rfl, rfl⟩
              go_wp2
              go_round
              case rel => exact ⟨_, hle, rfl, HE.out ▸ hr.out⟩
              case measure => simp [intOf]; omega
          · have HE : Hid (skipTo false s.data.toList m = skipTo false s.data.toList (m+1)) := skipTo_blank _ m hl (by rw [hget]; unfold isB; rw [h3]; simp)
            clear hget
            go_wp2
            go_round
            case rel => exact ⟨m+1, by omega, by go_num, HE.out ▸ hr.out⟩
            case measure => simp [intOf]; omega
        · have HE : Hid (skipTo false s.data.toList m = skipTo false s.data.toList (m+1)) := skipTo_blank _ m hl (by rw [hget]; unfold isB; rw [h2]; simp)
          clear hget
          go_wp2
          go_round
          case rel => exact ⟨m+1, by omega, by go_num, HE.out ▸ hr.out⟩
          case measure => simp [intOf]; omega
      · have HE : Hid (skipTo false s.data.toList m = skipTo false s.data.toList (m+1)) := skipTo_blank _ m hl (by rw [hget]; unfold isB; rw [h1]; simp)
        clear hget
        go_wp2
        go_round
        case rel => exact ⟨m+1, by omega, by go_num, HE.out ▸ hr.out⟩
        case measure => simp [intOf]; omega
    · have HE : Hid (skipTo false s.data.toList m = m) := skipTo_end _ _ m (by simpa using hlt)
      go_wp2
      go_ret
      exact ⟨ret_int (by rw [← hr.out, HE.out]), rfl⟩

set_option maxHeartbeats 400000 in
theorem check_any (kd a : Int) (t : ByteArray) (hs : t.size ≤ maxLen) (w : World) :
    Calls Tryz.prog 39 #[.agg #[.int .i64 kd, .int .i64 a, .string t]] w fun e w' => e = .returned (.int .i64 (errOf kd t)) ∧ Below w.heap.size w w' := by
  unfold maxLen at hs
  by_cases h0 : 0 < t.size
  · have hb : byteAt t.data.toList 0 = t[0] := by rw [byteAt_get _ _ (by simpa using h0)]; exact list_get t 0 h0 _
    go_enter Tryz.func39, Tryz.ntmps39
    go_wp2
    all_goals
      go_ret
      refine ⟨ret_int ?_, (Below.refl _ _).alloc (Nat.le_refl _) _⟩
      simp only [beq_iff_eq, beq_eq_false_iff_ne] at *
      unfold errOf
      repeat' split
      all_goals first | rfl | omega | (rw [hb] at *; omega)
  · go_enter Tryz.func39, Tryz.ntmps39
    go_wp2
    all_goals
      go_ret
      refine ⟨ret_int ?_, (Below.refl _ _).alloc (Nat.le_refl _) _⟩
      simp only [beq_iff_eq, beq_eq_false_iff_ne] at *
      unfold errOf
      repeat' split
      all_goals first | rfl | omega

theorem drop_data (s : ByteArray) (k : Nat) : (s.extract k s.size).data.toList = s.data.toList.drop k := by
  rw [ByteArray.data_extract, Array.toList_extract]
  simp only [List.extract_eq_take_drop]
  exact List.take_of_length_le (by simp)

set_option maxHeartbeats 400000 in
theorem next_letter (s : ByteArray) (k : Nat) (hk : k < s.size) (hs : s.size ≤ maxLen) (w : World) (hL : isL s[k] = true) :
    Calls Tryz.prog 38 #[.string s, .int .i64 k] w fun e w' => e = .returned (.agg #[.int .i64 1, .int .i64 k, .string (s.extract k (runTo isW s.data.toList k))]) ∧ Below w.heap.size w w' := by
  have HS : Hid (s.size ≤ maxLen) := hs
  unfold maxLen at hs
  have hl : k < s.data.toList.length := by simpa using hk
  have hle : k ≤ runTo isW s.data.toList k := (runTo_le isW _ _ (Nat.le_of_lt hl)).1
  have hle2 : runTo isW s.data.toList k ≤ s.size := by simpa using (runTo_le isW _ _ (Nat.le_of_lt hl)).2
  have HL : Hid (isL s[k] = true) := hL
  clear hL
  go_enter Tryz.func38, Tryz.ntmps38
  go_wp2_with fail
  refine (letter_any _ _).mono ?_
  rintro e w' ⟨rfl, rfl⟩
  rw [HL.out]
  go_wp2_with fail
  refine (run_word s k (by omega) HS.out _).mono ?_
  rintro e w' ⟨rfl, rfl⟩
  go_wp2
  exact bodyPost_ret (v := .agg #[.int .i64 1, .int .i64 k, .string (s.extract k (runTo isW s.data.toList k))]) (by simp [results, Tryz.results38, go_sem]) rfl ⟨rfl, (Below.refl _ _).alloc (Nat.le_refl _) _⟩

set_option maxHeartbeats 400000 in
theorem next_digit (s : ByteArray) (k : Nat) (hk : k < s.size) (hs : s.size ≤ maxLen) (w : World) (hL : isL s[k] = false) (hD : isD s[k] = true) :
    Calls Tryz.prog 38 #[.string s, .int .i64 k] w fun e w' => e = .returned (.agg #[.int .i64 2, .int .i64 k, .string (s.extract k (runTo isD s.data.toList k))]) ∧ Below w.heap.size w w' := by
  have HS : Hid (s.size ≤ maxLen) := hs
  unfold maxLen at hs
  have hl : k < s.data.toList.length := by simpa using hk
  have hle : k ≤ runTo isD s.data.toList k := (runTo_le isD _ _ (Nat.le_of_lt hl)).1
  have hle2 : runTo isD s.data.toList k ≤ s.size := by simpa using (runTo_le isD _ _ (Nat.le_of_lt hl)).2
  have HL : Hid (isL s[k] = false) := hL
  have HD : Hid (isD s[k] = true) := hD
  clear hL hD
  go_enter Tryz.func38, Tryz.ntmps38
  go_wp2_with fail
  refine (letter_any _ _).mono ?_
  rintro e w' ⟨rfl, rfl⟩
  rw [HL.out]
  go_wp2_with fail
  refine (digit_any _ _).mono ?_
  rintro e w' ⟨rfl, rfl⟩
  rw [HD.out]
  go_wp2_with fail
  refine (run_digit s k (by omega) HS.out _).mono ?_
  rintro e w' ⟨rfl, rfl⟩
  go_wp2
  exact bodyPost_ret (v := .agg #[.int .i64 2, .int .i64 k, .string (s.extract k (runTo isD s.data.toList k))]) (by simp [results, Tryz.results38, go_sem]) rfl ⟨rfl, (Below.refl _ _).alloc (Nat.le_refl _) _⟩

set_option maxHeartbeats 400000 in
theorem next_sign (s : ByteArray) (k g : Nat) (hk : k < s.size) (hs : s.size ≤ maxLen) (w : World) (hL : isL s[k] = false) (hD : isD s[k] = false)
    (hg : signN (s.data.toList.drop k) = g) (h0 : 0 < g) :
    Calls Tryz.prog 38 #[.string s, .int .i64 k] w fun e w' => e = .returned (.agg #[.int .i64 3, .int .i64 k, .string (s.extract k (k + g))]) ∧ Below w.heap.size w w' := by
  have hsz : (s.extract k s.size).size = s.size - k := size_extract _ _ _ (Nat.le_refl _)
  have HZ : Hid (0 < (s.extract k s.size).size ∧ (s.extract k s.size).size ≤ maxLen) := ⟨by omega, by omega⟩
  unfold maxLen at hs
  have hle : k + g ≤ s.size := by have := signN_le (s.data.toList.drop k) (by simp; omega); simp at this; omega
  have HL : Hid (isL s[k] = false) := hL
  have HD : Hid (isD s[k] = false) := hD
  have HG : Hid (signN (s.extract k s.size).data.toList = g) := by rw [drop_data]; exact hg
  clear hL hD hg hsz
  go_enter Tryz.func38, Tryz.ntmps38
  go_wp2_with fail
  refine (letter_any _ _).mono ?_
  rintro e w' ⟨rfl, rfl⟩
  rw [HL.out]
  go_wp2_with fail
  refine (digit_any _ _).mono ?_
  rintro e w' ⟨rfl, rfl⟩
  rw [HD.out]
  go_wp2_with fail
  refine (sign_any _ HZ.out.1 HZ.out.2 _).mono ?_
  rintro e w' ⟨rfl, rfl⟩
  rw [HG.out]
  go_wp2
  exact bodyPost_ret (v := .agg #[.int .i64 3, .int .i64 k, .string (s.extract k (k + g))]) (by simp [results, Tryz.results38, go_sem]) rfl ⟨rfl, (Below.refl _ _).alloc (Nat.le_refl _) _⟩

set_option maxHeartbeats 400000 in
theorem next_none (s : ByteArray) (k : Nat) (hk : k < s.size) (hs : s.size ≤ maxLen) (w : World) (hL : isL s[k] = false) (hD : isD s[k] = false)
    (hg : signN (s.data.toList.drop k) = 0) :
    Calls Tryz.prog 38 #[.string s, .int .i64 k] w fun e w' => e = .returned (.agg #[.int .i64 0, .int .i64 0, .string ByteArray.empty]) ∧ Below w.heap.size w w' := by
  have hsz : (s.extract k s.size).size = s.size - k := size_extract _ _ _ (Nat.le_refl _)
  have HZ : Hid (0 < (s.extract k s.size).size ∧ (s.extract k s.size).size ≤ maxLen) := ⟨by omega, by omega⟩
  unfold maxLen at hs
  have HL : Hid (isL s[k] = false) := hL
  have HD : Hid (isD s[k] = false) := hD
  have HG : Hid (signN (s.extract k s.size).data.toList = 0) := by rw [drop_data]; exact hg
  clear hL hD hg hsz
  go_enter Tryz.func38, Tryz.ntmps38
  go_wp2_with fail
  refine (letter_any _ _).mono ?_
  rintro e w' ⟨rfl, rfl⟩
  rw [HL.out]
  go_wp2_with fail
  refine (digit_any _ _).mono ?_
  rintro e w' ⟨rfl, rfl⟩
  rw [HD.out]
  go_wp2_with fail
  refine (sign_any _ HZ.out.1 HZ.out.2 _).mono ?_
  rintro e w' ⟨rfl, rfl⟩
  rw [HG.out]
  go_wp2
  exact bodyPost_ret (v := .agg #[.int .i64 0, .int .i64 0, .string ByteArray.empty]) (by simp [results, Tryz.results38, go_sem]; rfl) rfl ⟨rfl, (Below.refl _ _).alloc (Nat.le_refl _) _⟩

def tokV (t : Tok) : Value := .agg #[.int .i64 t.kind, .int .i64 t.place, .string t.text]

theorem next_any (s : ByteArray) (k : Nat) (hk : k < s.size) (hs : s.size ≤ maxLen) (w : World) :
    Calls Tryz.prog 38 #[.string s, .int .i64 k] w fun e w' => e = .returned (tokV (tokAt s k)) ∧ Below w.heap.size w w' := by
  have hl : k < s.data.toList.length := by simpa using hk
  have hb : byteAt s.data.toList k = s[k] := by rw [byteAt_get _ _ hl]; exact list_get s k hk _
  cases hL : isL s[k]
  · cases hD : isD s[k]
    · by_cases hg : signN (s.data.toList.drop k) = 0
      · have e1 : tokAt s k = ⟨0, 0, ByteArray.empty⟩ := by unfold tokAt kindOf; rw [hb, hL, hD, hg]; rfl
        rw [e1]; exact next_none s k hk hs w hL hD hg
      · have e1 : tokAt s k = ⟨3, k, s.extract k (k + signN (s.data.toList.drop k))⟩ := by
          unfold tokAt kindOf endOf; rw [hb, hL, hD]; simp [hg]
        rw [e1]; exact next_sign s k _ hk hs w hL hD rfl (by omega)
    · have e1 : tokAt s k = ⟨2, k, s.extract k (runTo isD s.data.toList k)⟩ := by
        unfold tokAt kindOf endOf; rw [hb, hL, hD]; simp
      rw [e1]; exact next_digit s k hk hs w hL hD
  · have e1 : tokAt s k = ⟨1, k, s.extract k (runTo isW s.data.toList k)⟩ := by
      unfold tokAt kindOf endOf; rw [hb, hL]; simp
    rw [e1]; exact next_letter s k hk hs w hL
end Go.Proofs.YtdjbejlbmaiocabGreatDoor
/-
  WALK: token.Scan: it answers what 'scanOf' says; its tokens lie in a row of its own.
-/
namespace Go.Proofs.YtdjbejlbmaiocabGreatDoor
open Go.RowKit

theorem Tryz.infoTok : (Tryz.prog.info? 79).map (fun i => (i.zero, i.size, i.bytes)) = some (some (.agg #[.int .i64 0, .int .i64 0, .string ByteArray.empty]), 3, 32) := by kernel_rfl

def tokCells (t : Tok) : List Value := [.int .i64 t.kind, .int .i64 t.place, .string t.text]
def toksCells (l : List Tok) : List Value := l.flatMap tokCells
theorem own_below {w w' : World} {base : Nat} {e : TypeId} {size : Nat} {v : Value} {n : Nat} {xs : List Value} (h : w.ownsRow base e size v n xs) (hb : Below w.heap.size w w') : w'.ownsRow base e size v n xs := by
  refine ⟨h.1, ?_⟩
  rcases h.2 with hn | ⟨g, cap, cur, hv, hg, hh, r⟩
  · exact .inl hn
  · exact .inr ⟨g, cap, cur, hv, hg, by rw [hb.block g (Array.getElem?_eq_some_iff.1 hh).1]; exact hh, r⟩
theorem laid_cells (w : World) (t : Tok) : ∀ (j : Nat) (u : Value), (tokCells t)[j]? = some u →
    (w.alloc (.cells #[.int .i64 t.kind, .int .i64 t.place, .string t.text] 79)).cell? ((⟨w.heap.size, 0, none⟩ : Addr).add j) = some u := by
  intro j u hj
  match j, hj with
  | 0, hj => simp [tokCells] at hj; subst hj; simp [Addr.add]
  | 1, hj => simp [tokCells] at hj; subst hj; simp [Addr.add]
  | 2, hj => simp [tokCells] at hj; subst hj; simp [Addr.add]
theorem tok_oneCell (t : Tok) : ∀ (u : Value), u ∈ tokCells t → u.oneCell' = true := by
  intro u hu
  simp only [tokCells, List.mem_cons, List.not_mem_nil, or_false] at hu
  rcases hu with rfl | rfl | rfl <;> rfl
theorem tokAt_size (s : ByteArray) (j : Nat) : (tokAt s j).text.size ≤ s.size := by
  unfold tokAt
  split
  · simp
  · show (s.extract _ _).size ≤ _
    rw [ByteArray.size_extract]; omega
theorem toksCells_len (l : List Tok) : (toksCells l).length = l.length * 3 := by
  induction l with
  | nil => rfl
  | cons a r ih => simp only [toksCells, List.flatMap_cons, List.length_append] at *; rw [ih]; simp [tokCells]; omega

set_option maxHeartbeats 1000000 in
set_option maxRecDepth 100000 in
theorem scan_any (s : ByteArray) (hs : s.size ≤ 4000) (w : World) :
    Calls Tryz.prog 13 #[.string s] w fun e w' => ∃ v, e = .returned (.tuple #[v, .int .i64 (scanOf s).2.1, .int .i64 (scanOf s).2.2]) ∧
      w'.ownsRow w.heap.size 79 3 v (scanOf s).1.length (toksCells (scanOf s).1) ∧ Below w.heap.size w w' := by
  have HS : Hid (s.size ≤ maxLen) := by show s.size ≤ maxLen; unfold maxLen; omega
  obtain ⟨i0, hi, hz0, hz1, hz2⟩ := info_parts Tryz.infoTok
  obtain ⟨R, hR⟩ : ∃ R, R = scanOf s := ⟨_, rfl⟩
  rw [← hR]
  have HR : Hid (R = scanF (s.size + 1) s 0 []) := by rw [hR]; unfold scanOf; rw [if_neg (by omega)]; rfl
  clear hR
  have h0 := skipTo_le false s.data.toList 0 (Nat.zero_le _)
  go_enter Tryz.func13, Tryz.ntmps13
  go_wp2_with fail
  refine (skip_any s 0 (Nat.zero_le _) HS.out _).mono ?_
  rintro e w ⟨rfl, rfl⟩
  go_wp2_with fail
  go_loopw [5, 6] (fun v i wr => ∃ (k f j : Nat) (acc : List Tok), i = .int .i64 j ∧ Hid (skipTo false s.data.toList k = j) ∧ Hid (R = scanF f s k acc) ∧ s.size < k + f ∧ k ≤ s.size ∧ j ≤ s.size ∧ k ≤ j ∧ acc.length ≤ k ∧
      wr.ownsRow w.heap.size 79 3 v acc.length (toksCells acc) ∧ Below w.heap.size w wr) (fun _ i _ => s.size - (intOf i).toNat)
  case atStart => exact ⟨0, s.size + 1, _, [], rfl, rfl, HR, by omega, by omega, by simpa using h0.2, h0.1, Nat.le_refl _, World.ownsRow_nil _ _ _ _, Below.refl _ _⟩
  case round =>
    obtain ⟨k, f, j, acc, rfl, hj, hR, hf, hk, hjs, hkj, hacc, hown, hbw⟩ := hrel
    by_cases hlt : j < s.size
    · have hl : j < s.data.toList.length := by simpa using hlt
      obtain ⟨f, rfl⟩ : ∃ f', f = f' + 1 := ⟨f - 1, by omega⟩
      obtain ⟨t, ht⟩ : ∃ t, t = tokAt s j := ⟨_, rfl⟩
      have HT : Hid (t = tokAt s j) := ht
      have htx : t.text.size ≤ s.size := by rw [ht]; exact tokAt_size s j
      have HTS : Hid (t.text.size ≤ maxLen) := Nat.le_trans htx HS.out
      have hsz := hbw.size
      clear ht
      by_cases he : errOf t.kind t.text = 0
      · have HR2 : Hid (R = scanF f s (endOf s.data.toList j) (acc ++ [t])) := by rw [hR.out, HT.out]; exact scanF_next f s k j acc hj.out hlt (by rw [← HT.out]; exact he)
        have HER : Hid (errOf t.kind t.text = 0) := he
        have hkd : kindOf s.data.toList j ≠ 0 := kind_of_ok s j (by rw [← HT.out]; exact he)
        have hen : j < endOf s.data.toList j := endOf_gt _ j hl hkd
        have hen2 : endOf s.data.toList j ≤ s.size := by simpa using (endOf_le _ j hl).2
        have HTE : Hid (t.text.size = endOf s.data.toList j - j) := by
          rw [HT.out]; unfold tokAt; rw [if_neg hkd]; exact size_extract _ _ _ hen2
        clear he hkd
        go_wp2_with fail
        refine (next_any s j hlt HS.out _).mono ?_
        rintro e w1 ⟨rfl, hb1⟩
        rw [← HT.out]; unfold tokV
        have hs1 := hb1.size
        go_wp2_with fail
        refine (check_any _ _ _ HTS.out _).mono ?_
        rintro e w2 ⟨rfl, hb2⟩
        rw [HER.out]
        have hs2 : w1.heap.size + 1 ≤ w2.heap.size := by simpa using hb2.size
        have hc0 : w2.cell? ⟨w1.heap.size, 0, none⟩ = some (.int .i64 t.kind) := (hb2.cell (by simp)).trans (by simp)
        have hc1 : w2.cell? ⟨w1.heap.size, 1, none⟩ = some (.int .i64 t.place) := (hb2.cell (by simp)).trans (by simp)
        have hc2 : w2.cell? ⟨w1.heap.size, 2, none⟩ = some (.string t.text) := (hb2.cell (by simp)).trans (by simp)
        have hown2 : w2.ownsRow w.heap.size 79 3 u5 acc.length (toksCells acc) := own_below ((own_below hown hb1).alloc _) hb2
        go_wp2_with (at_builtin; refine wpList_append_own _ rfl _ _ 38 rfl w.heap.size 79 i0 (.agg #[.int .i64 0, .int .i64 0, .string ByteArray.empty]) 3 32 Tryz.underlying38 hi hz0 hz1 hz2 rfl (by decide) _ _ _ rfl (hown2.alloc _) ⟨w2.heap.size, 0, none⟩ 1 1 (tokCells t) rfl rfl ?c1 ?c2 ?c3 ?c4 ?c5 ?_)
        case c1 => exact laid_cells w2 t
        case c2 => exact tok_oneCell t
        case c3 => unfold maxLen; omega
        case c4 => omega
        case c5 => simp; omega
        intro v3 w3 hown3 hgrow _
        have hc3 : w3.cell? ⟨w1.heap.size, 2, none⟩ = some (.string t.text) := hgrow.cell ((World.cell?_alloc_past _ _ _ (by omega)).trans hc2) (by intro h; have hq := (hown.lt _ h.symm).2; simp only at hq; omega)
        have hb3 : Below w.heap.size w w3 := ((((hbw.trans (hb1.mono hsz)).alloc (by omega) _).trans (hb2.mono (by simp; omega))).alloc (by omega) _).grown hgrow (by simp; omega) (fun b h => (hown.lt _ h).1)
        have hown4 : w3.ownsRow w.heap.size 79 3 v3 (acc ++ [t]).length (toksCells (acc ++ [t])) := by
          have e1 : toksCells (acc ++ [t]) = toksCells acc ++ tokCells t := by simp [toksCells]
          rw [e1, List.length_append]; exact hown3
        clear hown3 hgrow hown2 hc0 hc1 hc2 hb2 hb1 hown hbw hs1 hs2 hsz
        have hjt : (j : Int) + (t.text.size : Int) = ((endOf s.data.toList j : Nat) : Int) := by rw [HTE.out]; omega
        have HJT : Hid ((j : Int) + (t.text.size : Int) = ((endOf s.data.toList j : Nat) : Int)) := hjt
        clear hjt
        go_wp2_with fail
        rw [HJT.out]
        refine (skip_any s (endOf s.data.toList j) hen2 HS.out _).mono ?_
        rintro e w3 ⟨rfl, rfl⟩
        have h5 := skipTo_le false s.data.toList (endOf s.data.toList j) (by simpa using hen2)
        have h51 := h5.1
        have h52 : skipTo false s.data.toList (endOf s.data.toList j) ≤ s.size := by simpa using h5.2
        clear h5
        go_wp2
        go_roundw
        case rel => exact ⟨endOf s.data.toList j, f, _, acc ++ [t], rfl, rfl, HR2, by omega, hen2, h52, h51, by simp; omega, hown4, hb3⟩
        case measure => simp [intOf]; omega
      · have HR2 : Hid (R = ([], j, errOf t.kind t.text)) := by rw [hR.out, HT.out]; exact scanF_err f s k j acc hj.out hlt (by rw [← HT.out]; exact he)
        have he' : (errOf t.kind t.text != 0) = true := by simpa using he
        clear he
        obtain ⟨er, HER⟩ : ∃ er, Hid (errOf t.kind t.text = er) := ⟨_, rfl⟩
        rw [HER.out] at HR2 he'
        go_wp2_with fail
        refine (next_any s j hlt HS.out _).mono ?_
        rintro e w1 ⟨rfl, hb1⟩
        rw [← HT.out]; unfold tokV
        have hs1 := hb1.size
        go_wp2_with fail
        refine (check_any _ _ _ HTS.out _).mono ?_
        rintro e w2 ⟨rfl, hb2⟩
        rw [HER.out]
        go_wp2
        go_ret3
        rw [HR2.out]
        exact ⟨_, rfl, World.ownsRow_nil _ _ _ _, ((hbw.trans (hb1.mono hsz)).alloc (by omega) _).trans (hb2.mono (by simp; omega))⟩
    · have HR2 : Hid (R = (acc, 0, 0)) := by rw [hR.out]; exact scanF_end f s k acc (by rw [hj.out]; exact hlt)
      go_wp2
      go_ret3
      rw [HR2.out]
      exact ⟨_, rfl, hown, hbw⟩
end Go.Proofs.YtdjbejlbmaiocabGreatDoor
/-
  WALK: Scan at every text; what its tokens are in memory; PLAIN: which tokens are alone in their text; what is joined of tokens.
-/
namespace Go.Proofs.YtdjbejlbmaiocabGreatDoor
open Go.RowKit

theorem tokAt_some (s : ByteArray) (j n kd : Nat) (hk : kindOf s.data.toList j = kd) (h0 : kd ≠ 0) (hn : endOf s.data.toList j = j + n) : tokAt s j = ⟨kd, j, s.extract j (j + n)⟩ := by
  unfold tokAt; rw [if_neg (by rw [hk]; exact h0), hk, hn]
theorem toksCells_snoc (l : List Tok) (t : Tok) : toksCells (l ++ [t]) = toksCells l ++ tokCells t := by simp [toksCells]
theorem err1_long (t : ByteArray) (h : 12 < t.size) : errOf 1 t = 2 := by unfold errOf; rw [if_pos rfl, if_pos h]
theorem err1_ok (t : ByteArray) (h : ¬ 12 < t.size) : errOf 1 t = 0 := by unfold errOf; rw [if_pos rfl, if_neg h]
theorem err2_long (t : ByteArray) (h : 4 < t.size) : errOf 2 t = 2 := by unfold errOf; rw [if_neg (by decide), if_pos rfl, if_pos h]
theorem err2_nought (t : ByteArray) (h : ¬ 4 < t.size) (h1 : 1 < t.size) (h2 : ((byteAt t.data.toList 0).toNat : Int) = 48) : errOf 2 t = 1 := by
  unfold errOf; rw [if_neg (by decide), if_pos rfl, if_neg h, if_pos ⟨h1, h2⟩]
theorem err2_ok (t : ByteArray) (h : ¬ 4 < t.size) (h1 : 1 < t.size → ((byteAt t.data.toList 0).toNat : Int) ≠ 48) : errOf 2 t = 0 := by
  unfold errOf; rw [if_neg (by decide), if_pos rfl, if_neg h, if_neg (fun h' => h1 h'.1 h'.2)]
theorem err3_ok (t : ByteArray) : errOf 3 t = 0 := rfl
theorem kind_cases (l : List UInt8) (j : Nat) : kindOf l j = 0 ∨ kindOf l j = 1 ∨ kindOf l j = 2 ∨ kindOf l j = 3 := by
  unfold kindOf; repeat' split
  all_goals omega

set_option maxHeartbeats 400000 in
set_option maxRecDepth 100000 in
theorem scan_all (s : ByteArray) (hs : s.size ≤ maxLen) (w : World) :
    Calls Tryz.prog 13 #[.string s] w fun e w' => ∃ v, e = .returned (.tuple #[v, .int .i64 (scanOf s).2.1, .int .i64 (scanOf s).2.2]) ∧
      w'.ownsRow w.heap.size 79 3 v (scanOf s).1.length (toksCells (scanOf s).1) ∧ Below w.heap.size w w' := by
  by_cases h : s.size ≤ 4000
  · exact scan_any s h w
  · unfold maxLen at hs
    have hR : scanOf s = ([], 0, 2) := by unfold scanOf; rw [if_pos (by omega)]
    rw [hR]
    clear hR
    go_enter Tryz.func13, Tryz.ntmps13
    go_wp2
    go_ret3
    exact ⟨_, rfl, World.ownsRow_nil _ _ _ _, Below.refl _ _⟩

theorem drewN_drewN (w : World) (a b : Nat) : (w.drewN a).drewN b = w.drewN (a + b) := by
  unfold World.drewN; simp only [Nat.add_assoc]

/-- The tokens that lie from a place on, three cells each. -/
def tokRow (w : World) (b off : Nat) (ts : List Tok) : Prop :=
  ∀ (i : Nat) (t : Tok), ts[i]? = some t → w.cell? ⟨b, off + i * 3, none⟩ = some (.int .i64 t.kind) ∧ w.cell? ⟨b, off + i * 3 + 1, none⟩ = some (.int .i64 t.place) ∧ w.cell? ⟨b, off + i * 3 + 2, none⟩ = some (.string t.text)

/-- Is a token the only one of its text? -/
def aloneB (t : Tok) : Bool :=
  ((scanOf t.text).2.2 == 0) && (((scanOf t.text).1.length == 1) && (((scanOf t.text).1.headD ⟨0, 0, ByteArray.empty⟩).kind == t.kind && ((scanOf t.text).1.headD ⟨0, 0, ByteArray.empty⟩).text.toList == t.text.toList))

theorem own_form {w : World} {base : Nat} {e : TypeId} {size n : Nat} {v : Value} {xs : List Value} (h : w.ownsRow base e size v n xs) : ∃ a cap, v = .slice a n cap := by
  rcases h.2 with ⟨rfl, rfl⟩ | ⟨g, cap, cur, rfl, _⟩
  · exact ⟨_, _, rfl⟩
  · exact ⟨_, _, rfl⟩
/-- What is owned lies in a row. -/
theorem own_row {w : World} {base : Nat} {v : Value} {ts : List Tok} (h : w.ownsRow base 79 3 v ts.length (toksCells ts)) (h0 : ts ≠ []) :
    ∃ g cap, v = .slice (some ⟨g, 0, none⟩) ts.length cap ∧ base ≤ g ∧ g < w.heap.size ∧ tokRow w g 0 ts := by
  rcases h.2 with ⟨_, hn⟩ | ⟨g, cap, cur, hv, hg, hb, hrest⟩
  · exact absurd (List.eq_nil_of_length_eq_zero hn) h0
  · have hlt : g < w.heap.size := (Array.getElem?_eq_some_iff.1 hb).1
    refine ⟨g, cap, hv, hg, hlt, ?_⟩
    have hc := h.cells (g := g) (by rw [hv]; rfl)
    intro i t ht
    have key : ∀ j, j < 3 → (toksCells ts)[i * 3 + j]? = (tokCells t)[j]? := by
      intro j hj
      clear hc h hrest hb hv h0
      induction ts generalizing i with
      | nil => simp at ht
      | cons a r ih =>
        cases i with
        | zero =>
          simp at ht; subst ht
          simp only [toksCells, List.flatMap_cons]
          rw [List.getElem?_append_left (by simp [tokCells]; omega)]; simp
        | succ i =>
          simp only [toksCells, List.flatMap_cons]
          rw [List.getElem?_append_right (by simp [tokCells]; omega)]
          have e1 : (i + 1) * 3 + j - (tokCells a).length = i * 3 + j := by simp [tokCells]; omega
          rw [e1]
          exact ih i (by simpa using ht)
    have hadd : ∀ j, (⟨g, 0, none⟩ : Addr).add j = ⟨g, 0 + j, none⟩ := fun j => by unfold Addr.add; split <;> simp_all
    refine ⟨?_, ?_, ?_⟩
    · have := hc (i * 3 + 0) _ (by rw [key 0 (by omega)]; rfl); rw [hadd] at this; exact this
    · have := hc (i * 3 + 1) _ (by rw [key 1 (by omega)]; rfl); rw [hadd] at this; exact this
    · have := hc (i * 3 + 2) _ (by rw [key 2 (by omega)]; rfl); rw [hadd] at this; exact this

theorem kind_not_blank (l : List UInt8) (k : Nat) (hk : k < l.length) (h : kindOf l k ≠ 0) : isB l[k] = false ∧ ((l[k].toNat : Int) == 37) = false := by
  have hb := byteAt_get l k hk
  have hb0 : byteAt (l.drop k) 0 = l[k] := by rw [← hb]; unfold byteAt; simp
  unfold kindOf at h
  rw [hb] at h
  have hs : isL l[k] = true ∨ isD l[k] = true ∨ signN (l.drop k) ≠ 0 := by
    cases h1 : isL l[k]
    · cases h2 : isD l[k]
      · right; right; intro h3; simp [h1, h2, h3] at h
      · right; left; rfl
    · left; rfl
  have ne : ∀ n : Int, (n = 32 ∨ n = 9 ∨ n = 10 ∨ n = 37) → (l[k].toNat : Int) ≠ n := by
    intro n hn he
    have e32 : n ≤ 37 := by omega
    rcases hs with h1 | h1 | h1
    · simp only [isL, Bool.and_eq_true, decide_eq_true_eq] at h1; omega
    · simp only [isD, Bool.and_eq_true, decide_eq_true_eq] at h1; omega
    · unfold signN at h1
      split at h1
      · rename_i h2
        rw [List.drop_eq_getElem_cons hk] at h2
        simp only [sign2, Bool.or_eq_true, beq_iff_eq, List.take_succ_cons, List.cons.injEq] at h2
        rcases h2 with h2 | h2 | h2 | h2 | h2 <;> (rw [h2.1] at he; simp at he; omega)
      · split at h1
        · rename_i h2
          rw [hb0] at h2
          simp only [sign1, Bool.or_eq_true, beq_iff_eq] at h2
          omega
        · exact h1 rfl
  refine ⟨?_, by simpa using ne 37 (by omega)⟩
  unfold isB
  rw [show ((l[k].toNat : Int) == 32) = false by simpa using ne 32 (by omega), show ((l[k].toNat : Int) == 9) = false by simpa using ne 9 (by omega), show ((l[k].toNat : Int) == 10) = false by simpa using ne 10 (by omega)]
  rfl

theorem scanF_head (f : Nat) (s : ByteArray) : ∀ (k : Nat) (acc : List Tok), (scanF f s k acc).2.2 = 0 → ∃ r, (scanF f s k acc).1 = acc ++ r := by
  induction f with
  | zero => intro k acc _; exact ⟨[], by simp [scanF]⟩
  | succ f ih =>
    intro k acc h
    by_cases h1 : skipTo false s.data.toList k < s.size
    · by_cases h2 : errOf (tokAt s (skipTo false s.data.toList k)).kind (tokAt s (skipTo false s.data.toList k)).text = 0
      · rw [scanF_next f s k _ acc rfl h1 h2] at h ⊢
        obtain ⟨r, hr⟩ := ih _ _ h
        exact ⟨tokAt s (skipTo false s.data.toList k) :: r, by rw [hr]; simp⟩
      · rw [scanF_err f s k _ acc rfl h1 h2] at h; exact absurd h h2
    · exact ⟨[], by rw [scanF_end _ s k acc h1]; simp⟩

/-- What the reference asks of a token. -/
def isTok (kind : Int) (s : ByteArray) : Bool :=
  decide (0 < s.size) && (decide (s.size ≤ 4000) && (decide (kind ≠ 0) && (decide ((kindOf s.data.toList 0 : Int) = kind) && (decide (endOf s.data.toList 0 = s.size) && decide (errOf kind s = 0)))))

theorem isTok_iff (kind : Int) (s : ByteArray) : isTok kind s = true ↔ 0 < s.size ∧ s.size ≤ 4000 ∧ kind ≠ 0 ∧ (kindOf s.data.toList 0 : Int) = kind ∧ endOf s.data.toList 0 = s.size ∧ errOf kind s = 0 := by
  simp only [isTok, Bool.and_eq_true, decide_eq_true_eq]

theorem whole_extract (s : ByteArray) : s.extract 0 s.size = s := by
  apply ByteArray.ext
  rw [ByteArray.data_extract]; exact Array.extract_size
theorem len_size (s : ByteArray) : s.data.toList.length = s.size := by simp

/-- A text that is one token is scanned as that one. -/
theorem scan_of_isTok (kind : Int) (s : ByteArray) (h : isTok kind s = true) : scanOf s = ([⟨kind, 0, s⟩], 0, 0) := by
  obtain ⟨h0, h4, hk, hkind, hend, herr⟩ := (isTok_iff kind s).1 h
  have hl : 0 < s.data.toList.length := by rw [len_size]; exact h0
  have hkd : kindOf s.data.toList 0 ≠ 0 := by intro h'; rw [h'] at hkind; exact hk hkind.symm
  obtain ⟨hb1, hb2⟩ := kind_not_blank _ 0 hl hkd
  have hsk : skipTo false s.data.toList 0 = 0 := skipTo_stop _ 0 hl hb1 hb2
  have ht : tokAt s 0 = ⟨kind, 0, s⟩ := by
    unfold tokAt; rw [if_neg hkd, hend, hkind, whole_extract]; rfl
  have he : errOf (tokAt s 0).kind (tokAt s 0).text = 0 := by rw [ht]; exact herr
  unfold scanOf
  rw [if_neg (by omega), scanF_next _ s 0 0 [] hsk h0 he, hend, ht]
  rw [scanF_end _ s s.size _ (by rw [skipTo_end _ _ _ (by rw [len_size]; omega)]; omega)]
  simp

theorem alone_iff (t : Tok) : aloneB t = isTok t.kind t.text := by
  cases hi : isTok t.kind t.text
  · cases ha : aloneB t
    · rfl
    · exfalso
      simp only [aloneB, Bool.and_eq_true, beq_iff_eq] at ha
      obtain ⟨h1, h2, h3, h4⟩ := ha
      have h4' : ((scanOf t.text).1.headD ⟨0, 0, ByteArray.empty⟩).text = t.text := by
        rw [ByteArray.toList_eq, ByteArray.toList_eq] at h4
        exact ByteArray.ext (Array.toList_inj.1 h4)
      generalize hs : t.text = s at *
      by_cases hbig : 4000 < s.size
      · unfold scanOf at h1; rw [if_pos hbig] at h1; exact absurd h1 (by decide)
      · unfold scanOf at h1 h2 h3 h4'
        rw [if_neg hbig] at h1 h2 h3 h4'
        by_cases hsk : skipTo false s.data.toList 0 < s.size
        · by_cases he : errOf (tokAt s (skipTo false s.data.toList 0)).kind (tokAt s (skipTo false s.data.toList 0)).text = 0
          · rw [scanF_next _ s 0 _ [] rfl hsk he] at h1 h2 h3 h4'
            obtain ⟨r, hr⟩ := scanF_head _ s _ _ h1
            rw [hr] at h3 h4'
            simp only [List.nil_append, List.cons_append, List.headD_cons] at h3 h4'
            have hkd := kind_of_ok s _ he
            have hl : skipTo false s.data.toList 0 < s.data.toList.length := by rw [len_size]; exact hsk
            have hle := (endOf_le _ _ hl).2
            rw [len_size] at hle
            have hsz : (tokAt s (skipTo false s.data.toList 0)).text.size = endOf s.data.toList (skipTo false s.data.toList 0) - skipTo false s.data.toList 0 := by
              unfold tokAt; rw [if_neg hkd]; exact size_extract _ _ _ hle
            rw [h4'] at hsz
            have hz : skipTo false s.data.toList 0 = 0 := by omega
            rw [hz] at hsz h3 h4' he hkd
            have hk3 : (kindOf s.data.toList 0 : Int) = t.kind := by rw [← h3]; unfold tokAt; rw [if_neg hkd]
            have : isTok t.kind s = true := (isTok_iff _ _).2 ⟨by omega, by omega, by rw [← hk3]; omega, hk3, by omega, by rw [h3, h4'] at he; exact he⟩
            rw [this] at hi; cases hi
          · rw [scanF_err _ s 0 _ [] rfl hsk he] at h1; exact he h1
        · rw [scanF_end _ s 0 [] hsk] at h2; simp at h2
  · have h1 := scan_of_isTok _ _ hi
    unfold aloneB
    rw [h1]; simp

theorem signN_two (l : List UInt8) : signN l ≤ 2 := by
  unfold signN
  split
  · omega
  · split <;> omega
theorem tok_size (kind : Int) (s : ByteArray) (h : isTok kind s = true) : 0 < s.size ∧ s.size ≤ 12 := by
  obtain ⟨h0, h4, hk, hkind, hend, herr⟩ := (isTok_iff kind s).1 h
  refine ⟨h0, ?_⟩
  have hl : 0 < s.data.toList.length := by rw [len_size]; exact h0
  rcases kind_cases s.data.toList 0 with h1 | h1 | h1 | h1
  · rw [h1] at hkind; exact absurd hkind.symm hk
  · rw [h1] at hkind
    have : kind = 1 := hkind.symm
    subst this
    unfold errOf at herr; rw [if_pos rfl] at herr
    split at herr
    · cases herr
    · omega
  · rw [h1] at hkind
    have : kind = 2 := hkind.symm
    subst this
    unfold errOf at herr; rw [if_neg (by decide), if_pos rfl] at herr
    split at herr
    · cases herr
    · omega
  · unfold kindOf at h1
    split at h1
    · cases h1
    · split at h1
      · cases h1
      · rename_i g1 g2
        unfold endOf at hend
        rw [if_neg g1, if_neg g2] at hend
        have : signN (s.data.toList.drop 0) ≤ 2 := signN_two _
        omega

/-- How long what is joined of tokens is, and its bytes. -/
def joinN : List Tok → Nat
  | [] => 0
  | t :: r => t.text.size + (r.map fun u => 1 + u.text.size).sum
def joinL : List Tok → List UInt8
  | [] => []
  | t :: r => t.text.data.toList ++ r.flatMap fun u => 32 :: u.text.data.toList
def joinOf (ts : List Tok) : ByteArray × Int :=
  if ts.all aloneB then (if 4000 < joinN ts then (ByteArray.empty, 2) else (⟨(joinL ts).toArray⟩, 0)) else (ByteArray.empty, 1)

theorem joinN_snoc (l : List Tok) (t : Tok) : joinN (l ++ [t]) = joinN l + (if l.length = 0 then 0 else 1) + t.text.size := by
  cases l with
  | nil => simp [joinN]
  | cons a r => simp [joinN]; omega
theorem joinL_snoc (l : List Tok) (t : Tok) : joinL (l ++ [t]) = joinL l ++ (if l.length = 0 then [] else [32]) ++ t.text.data.toList := by
  cases l with
  | nil => simp [joinL]
  | cons a r => simp [joinL]
theorem joinL_len (l : List Tok) : (joinL l).length = joinN l := by
  cases l with
  | nil => rfl
  | cons a r =>
    simp only [joinL, joinN, List.length_append, len_size, List.length_flatMap]
    congr 2
    apply List.map_congr_left
    intro u _
    simp [Nat.add_comm]
theorem joinN_le (l : List Tok) (h : l.all aloneB = true) : joinN l ≤ 13 * l.length := by
  have h1 : ∀ t ∈ l, t.text.size ≤ 12 := fun t ht => (tok_size t.kind t.text (by rw [← alone_iff]; exact List.all_eq_true.1 h t ht)).2
  cases l with
  | nil => simp [joinN]
  | cons a r =>
    have ha := h1 a (by simp)
    have hr : ∀ q : List Tok, (∀ t ∈ q, t.text.size ≤ 12) → (q.map fun u => 1 + u.text.size).sum ≤ 13 * q.length := by
      intro q
      induction q with
      | nil => simp
      | cons b q ih =>
        intro hq
        have := ih (fun t ht => hq t (by simp [ht]))
        have := hq b (by simp)
        simp only [List.map_cons, List.sum_cons, List.length_cons]; omega
    have := hr r (fun t ht => h1 t (by simp [ht]))
    simp only [joinN, List.length_cons]; omega
end Go.Proofs.YtdjbejlbmaiocabGreatDoor
/-
  PLAIN: models, and what the program's Check says of them, as functions on data; no program in it.
-/
namespace Go.Proofs.YtdjbejlbmaiocabGreatDoor

structure MVar where
  name : ByteArray
  lo : Int
  hi : Int
structure MLit where
  var : Int
  op : Int
  n : Int
structure MCon where
  kind : Int
  vars : List Int
  consts : List Int
  n : Int
  rows : List (List Int)
  lits : List MLit
structure Mod where
  vars : List MVar
  cons : List MCon
  goal : Int
  var : Int

def isWordB (s : ByteArray) : Bool :=
  (s.toList == [118, 97, 114]) || ((s.toList == [99, 111, 110]) || ((s.toList == [115, 111, 108, 118, 101]) || ((s.toList == [108, 101]) || ((s.toList == [101, 113]) || ((s.toList == [110, 101]) || ((s.toList == [100, 105, 102, 102, 101, 114]) || ((s.toList == [101, 108, 101, 109, 101, 110, 116]) || ((s.toList == [116, 97, 98, 108, 101]) || ((s.toList == [116, 105, 109, 101, 115]) || ((s.toList == [109, 97, 120]) || ((s.toList == [99, 108, 97, 117, 115, 101]) || ((s.toList == [105, 102, 102]) || ((s.toList == [97, 110, 121]) || ((s.toList == [108, 101, 97, 115, 116]) || (s.toList == [109, 111, 115, 116])))))))))))))))
def isNameB (s : ByteArray) : Bool := isTok 1 s && !isWordB s
def inB (n most : Int) : Bool := decide (-most ≤ n) && decide (n ≤ most)
def isVarB (v n : Int) : Bool := decide (0 ≤ v) && decide (v < n)
def isConstB (n : Int) : Bool := inB n 1000

def varE (vs : List MVar) (v : MVar) : Int :=
  if isNameB v.name then
    if vs.any (fun u => u.name.toList == v.name.toList) then 6
    else if inB v.lo 50 && (inB v.hi 50 && !decide (v.hi < v.lo)) then (if 6 < v.hi - v.lo + 1 then 2 else 0) else 3
  else 1
/-- The first of some errors that is one. -/
def firstE : List Int → Int
  | [] => 0
  | e :: r => if e = 0 then firstE r else e
def varsE (vs : List MVar) : Int := firstE ((List.range vs.length).map fun i => varE (vs.take i) (vs.getD i ⟨ByteArray.empty, 0, 0⟩))

def manyB (c : MCon) : Bool := decide (4 < c.vars.length) || (decide (4 < c.lits.length) || (decide (8 < c.consts.length) || decide (20 < c.rows.length)))
def formB (c : MCon) : Bool :=
  if c.kind = 1 ∨ c.kind = 2 ∨ c.kind = 3 then decide (1 ≤ c.vars.length) && (decide (c.consts.length = c.vars.length) && decide (c.rows.length + c.lits.length = 0))
  else if c.n ≠ 0 then false
  else if c.kind = 4 then decide (1 ≤ c.vars.length) && decide (c.consts.length + c.rows.length + c.lits.length = 0)
  else if c.kind = 5 then decide (c.vars.length = 2) && (decide (1 ≤ c.consts.length) && decide (c.rows.length + c.lits.length = 0))
  else if c.kind = 6 then decide (1 ≤ c.vars.length) && (decide (c.consts.length + c.lits.length = 0) && c.rows.all fun r => decide (r.length = c.vars.length))
  else if c.kind = 7 then decide (c.vars.length = 3) && decide (c.consts.length + c.rows.length + c.lits.length = 0)
  else if c.kind = 8 then decide (2 ≤ c.vars.length) && decide (c.consts.length + c.rows.length + c.lits.length = 0)
  else if c.kind = 9 then decide (c.vars.length + c.consts.length + c.rows.length = 0)
  else if c.kind = 10 then decide (c.vars.length = 1) && (decide (c.lits.length = 1) && decide (c.consts.length + c.rows.length = 0))
  else false
def varsB (c : MCon) (n : Int) : Bool := c.vars.all (fun v => isVarB v n) && c.lits.all (fun l => isVarB l.var n)
def constsB (c : MCon) : Bool := c.consts.all isConstB && (isConstB c.n && c.rows.all fun r => r.all isConstB)
def litsE (ls : List MLit) : Int :=
  if ls.all (fun l => decide (1 ≤ l.op) && decide (l.op ≤ 4)) then (if ls.all (fun l => isConstB l.n) then 0 else 3) else 7
def conE (n : Int) (c : MCon) : Int :=
  if 1 ≤ c.kind ∧ c.kind ≤ 10 then (if manyB c then 2 else if formB c then (if varsB c n then (if constsB c then litsE c.lits else 3) else 5) else 1) else 7
def consE (m : Mod) : Int := firstE (m.cons.map (conE m.vars.length))
def goalE (m : Mod) : Int :=
  if m.goal = 0 then (if m.var = 0 then 0 else 1) else if m.goal = 1 ∨ m.goal = 2 then (if isVarB m.var m.vars.length then 0 else 5) else 7
def checkM (m : Mod) : Int :=
  if m.vars.length = 0 then 1 else if 6 < m.vars.length ∨ 8 < m.cons.length then 2
  else if varsE m.vars = 0 then (if consE m = 0 then goalE m else consE m) else varsE m.vars

theorem firstE_append (a b : List Int) : firstE (a ++ b) = if firstE a = 0 then firstE b else firstE a := by
  induction a with
  | nil => simp [firstE]
  | cons e r ih =>
    simp only [List.cons_append, firstE]
    by_cases h : e = 0
    · simp only [h, if_true]; exact ih
    · simp only [h, if_false]
theorem range_take_snoc (n k : Nat) (h : k < n) (f : Nat → Int) : ((List.range n).map f).take (k + 1) = ((List.range n).map f).take k ++ [f k] := by
  rw [List.take_add_one]; simp [h]
/-- Once an error is met it is the answer. -/
theorem firstE_hit (l : List Int) (k : Nat) (e : Int) (h0 : firstE (l.take k) = 0) (hk : l[k]? = some e) (he : e ≠ 0) : firstE l = e := by
  have hs : l = l.take k ++ l.drop k := (List.take_append_drop k l).symm
  rw [hs, firstE_append, if_pos h0]
  have hlt := (List.getElem?_eq_some_iff.1 hk).1
  rw [List.drop_eq_getElem_cons hlt]
  have : l[k] = e := by rw [List.getElem?_eq_getElem hlt] at hk; exact Option.some.inj hk
  rw [this, firstE, if_neg he]
theorem firstE_step (l : List Int) (k : Nat) (h0 : firstE (l.take k) = 0) (hk : l[k]? = some 0) : firstE (l.take (k + 1)) = 0 := by
  rw [List.take_add_one, hk, firstE_append, if_pos h0]; rfl
theorem firstE_all (l : List Int) (h : firstE l = 0) : ∀ e ∈ l, e = 0 := by
  induction l with
  | nil => intro e he; cases he
  | cons a r ih =>
    unfold firstE at h
    by_cases h0 : a = 0
    · rw [if_pos h0] at h
      intro e he
      rcases List.mem_cons.1 he with rfl | he
      · exact h0
      · exact ih h e he
    · rw [if_neg h0] at h; exact absurd h h0
theorem checkM_vars (m : Mod) (h : checkM m = 0) : 1 ≤ m.vars.length ∧ m.vars.length ≤ 6 ∧ m.cons.length ≤ 8 ∧ varsE m.vars = 0 ∧ consE m = 0 ∧ goalE m = 0 := by
  unfold checkM at h
  by_cases h0 : m.vars.length = 0
  · rw [if_pos h0] at h; cases h
  · rw [if_neg h0] at h
    by_cases h1 : 6 < m.vars.length ∨ 8 < m.cons.length
    · rw [if_pos h1] at h; cases h
    · rw [if_neg h1] at h
      by_cases h2 : varsE m.vars = 0
      · rw [if_pos h2] at h
        by_cases h3 : consE m = 0
        · rw [if_pos h3] at h; exact ⟨by omega, by omega, by omega, h2, h3, h⟩
        · rw [if_neg h3] at h; exact absurd h h3
      · rw [if_neg h2] at h; exact absurd h h2
theorem varE_ok (vs : List MVar) (v : MVar) (h : varE vs v = 0) : -50 ≤ v.lo ∧ v.hi ≤ 50 ∧ v.lo ≤ v.hi ∧ v.hi - v.lo + 1 ≤ 6 := by
  unfold varE at h
  split at h
  · split at h
    · cases h
    · split at h
      · rename_i h1
        simp only [inB, Bool.and_eq_true, decide_eq_true_eq, Bool.not_eq_true', decide_eq_false_iff_not] at h1
        split at h
        · cases h
        · omega
      · cases h
  · cases h
theorem var_ok (m : Mod) (h : checkM m = 0) (i : Nat) (v : MVar) (hv : m.vars[i]? = some v) : -50 ≤ v.lo ∧ v.hi ≤ 50 ∧ v.lo ≤ v.hi ∧ v.hi - v.lo + 1 ≤ 6 := by
  have h1 := (checkM_vars m h).2.2.2.1
  have h2 := firstE_all _ h1 (varE (m.vars.take i) v) (by
    have hi : i < m.vars.length := (List.getElem?_eq_some_iff.1 hv).1
    refine List.mem_map.2 ⟨i, List.mem_range.2 hi, ?_⟩
    rw [List.getD_eq_getElem?_getD, hv]; rfl)
  exact varE_ok _ _ h2
theorem con_ok (m : Mod) (h : checkM m = 0) (i : Nat) (c : MCon) (hc : m.cons[i]? = some c) : conE m.vars.length c = 0 := by
  have h1 := (checkM_vars m h).2.2.2.2.1
  exact firstE_all _ h1 _ (List.mem_map.2 ⟨c, List.mem_of_getElem? hc, rfl⟩)
/-- Does a literal hold of a value? -/
def litV (x : Int) (l : MLit) : Bool :=
  if l.op = 1 then decide (x ≤ l.n) else if l.op = 2 then decide (l.n ≤ x) else if l.op = 3 then x == l.n else if l.op = 4 then x != l.n else false
end Go.Proofs.YtdjbejlbmaiocabGreatDoor
/-
  PLAIN: what the reader of texts does: tokens are taken one by one; what can't stand there is told with its place.
-/
namespace Go.Proofs.YtdjbejlbmaiocabGreatDoor

/-- Of a token that is a number: it has one to four digits. -/
def TokOk (t : Tok) : Prop := t.text.size ≤ 4000 ∧ (t.kind = 2 → (1 ≤ t.text.size ∧ t.text.size ≤ 4) ∧ ∀ c ∈ t.text.data.toList, 48 ≤ c.toNat ∧ c.toNat ≤ 57)
/-- What a part of the reader comes to: a thing and the tokens that are left, or a place and an error. -/
inductive PR (α : Type) where
  | ok (a : α) (rest : List Tok)
  | bad (place e : Int)
def PR.bind {α β : Type} (p : PR α) (f : α → List Tok → PR β) : PR β :=
  match p with
  | .ok a r => f a r
  | .bad x e => .bad x e
def headT (en : Int) : List Tok → Tok
  | [] => ⟨0, en, ByteArray.empty⟩
  | t :: _ => t
def passP (en : Int) (fits : Bool) (l : List Tok) : PR Tok := if fits then .ok (headT en l) l.tail else .bad (headT en l).place 1
def skipP (en : Int) (s : ByteArray) (l : List Tok) : PR Tok := passP en ((headT en l).text.toList == s.toList) l
/-- Is a text a name? -/
def nameB (s : ByteArray) : Bool := checkM ⟨[⟨s, 0, 0⟩], [], 0, 0⟩ == 0
def newNameP (en : Int) (l : List Tok) : PR ByteArray := (passP en (nameB (headT en l).text) l).bind fun t r => .ok t.text r
/-- Where a text stands first in a list, counted on. -/
def idxA : List ByteArray → ByteArray → Nat → Int
  | [], _, _ => -1
  | x :: r, n, k => if n.toList == x.toList then (k : Int) else idxA r n (k + 1)
def oneOfP (en : Int) (texts : List ByteArray) (l : List Tok) : PR Int :=
  (passP en (decide (0 ≤ idxA texts (headT en l).text 0) && ((headT en l).kind != 0)) l).bind fun _ r => .ok (idxA texts (headT en l).text 0) r
/-- The number that digits spell. -/
def digV (l : List UInt8) : Int := l.foldl (fun n c => n * 10 + ((c.toNat : Int) - 48)) 0
def numberP (en : Int) (l : List Tok) : PR Int :=
  if (headT en l).text.toList == [45] then
    (skipP en ⟨#[45]⟩ l).bind fun _ l => (passP en (((headT en l).kind == 2) && (!((headT en l).text.toList == [48]))) l).bind fun t r => .ok (-1 * digV t.text.data.toList) r
  else (passP en ((headT en l).kind == 2) l).bind fun t r => .ok (1 * digV t.text.data.toList) r
/-- Which variable has a name, as far as names have come: the last one that does. -/
def nameAt : List ByteArray → ByteArray → Int × Bool
  | [], _ => (0, false)
  | n :: r, s => if (nameAt r s).2 then ((nameAt r s).1 + 1, true) else if n.data.toList = s.data.toList then (0, true) else (0, false)
def nameP (en : Int) (names : List ByteArray) (l : List Tok) : PR Int :=
  if (nameAt names (headT en l).text).2 then (passP en true l).bind fun _ r => .ok (nameAt names (headT en l).text).1 r
  else if nameB (headT en l).text then .bad (headT en l).place 5 else .bad (headT en l).place 1
theorem nameAt_next (s n : ByteArray) : ∀ l : List ByteArray, nameAt (l ++ [n]) s = if n.data.toList = s.data.toList then ((l.length : Int), true) else nameAt l s
  | [] => by
    simp [nameAt]
  | m :: l => by
    have ih := nameAt_next s n l
    simp only [List.cons_append, nameAt, ih]
    by_cases h : n.data.toList = s.data.toList
    · rw [if_pos h, if_pos h]
      simp
    · rw [if_neg h, if_neg h]
theorem nameAt_bound (s : ByteArray) : ∀ l : List ByteArray, 0 ≤ (nameAt l s).1 ∧ ((nameAt l s).2 = true → (nameAt l s).1 < l.length)
  | [] => by simp [nameAt]
  | m :: l => by
    have ih := nameAt_bound s l
    simp only [nameAt]
    split
    · rename_i h
      have := ih.2 h
      simp; omega
    · split
      · simp
      · simp
theorem nameAt_empty : ∀ l : List ByteArray, (∀ n ∈ l, n.data.toList ≠ []) → nameAt l ByteArray.empty = (0, false)
  | [], _ => rfl
  | n :: l, h => by
    have ih := nameAt_empty l fun m hm => h m (List.mem_cons_of_mem _ hm)
    simp only [nameAt, ih]
    rw [if_neg (by simp), if_neg (show ¬ n.data.toList = ByteArray.empty.data.toList from h n (List.mem_cons_self ..))]
/-- What comes behind a list's first thing. -/
def moreP {α : Type} (en : Int) (item : List Tok → PR α) : Nat → List α → List Tok → PR (List α)
  | 0, _, _ => .bad 0 0
  | f + 1, acc, l =>
    if (headT en l).text.toList == [44] then (skipP en ⟨#[44]⟩ l).bind fun _ l => (item l).bind fun x l => moreP en item f (acc ++ [x]) l
    else (skipP en ⟨#[93]⟩ l).bind fun _ l => .ok acc l
def readP {α : Type} (en : Int) (item : List Tok → PR α) (l : List Tok) : PR (List α) :=
  (skipP en ⟨#[91]⟩ l).bind fun _ l =>
    if (headT en l).text.toList == [93] then (skipP en ⟨#[93]⟩ l).bind fun _ l => .ok [] l
    else (item l).bind fun x l => moreP en item (l.length + 1) [x] l
/-- A part of the reader never gives tokens back. -/
def Eats {α : Type} (item : List Tok → PR α) : Prop := ∀ l x r, item l = .ok x r → r.length ≤ l.length
theorem PR.bind_ok {α β : Type} {p : PR α} {f : α → List Tok → PR β} {b : β} {r : List Tok} (h : p.bind f = .ok b r) : ∃ a q, p = .ok a q ∧ f a q = .ok b r := by
  cases p with
  | ok a q => exact ⟨a, q, rfl, h⟩
  | bad x e => cases h
theorem pass_eats (en : Int) (l : List Tok) (fits : Bool) (t : Tok) (r : List Tok) (h : passP en fits l = .ok t r) : r = l.tail := by
  unfold passP at h
  split at h
  · cases h; rfl
  · cases h
theorem eats_pass {α : Type} (en : Int) (g : List Tok → Bool) (f : Tok → List Tok → α) : Eats fun l => (passP en (g l) l).bind fun t r => .ok (f t r) r := by
  intro l x r h
  obtain ⟨t, q, h1, h2⟩ := PR.bind_ok h
  have := pass_eats en l _ t q h1
  cases h2
  rw [this]
  simp
theorem eats_name (en : Int) (names : List ByteArray) : Eats (nameP en names) := by
  intro l x r h
  unfold nameP at h
  split at h
  · obtain ⟨t, q, h1, h2⟩ := PR.bind_ok h
    have := pass_eats en l _ t q h1
    cases h2
    rw [this]; simp
  · split at h <;> cases h
theorem eats_skip (en : Int) (s : ByteArray) : Eats (skipP en s) := by
  intro l x r h
  rw [pass_eats en l _ x r h]; simp
theorem eats_number (en : Int) : Eats (numberP en) := by
  intro l x r h
  unfold numberP at h
  split at h
  · obtain ⟨t, q, h1, h2⟩ := PR.bind_ok h
    obtain ⟨t2, q2, h3, h4⟩ := PR.bind_ok h2
    have e1 := eats_skip en _ l t q h1
    have e2 := pass_eats en q _ t2 q2 h3
    cases h4
    rw [e2]; simp; omega
  · obtain ⟨t2, q2, h3, h4⟩ := PR.bind_ok h
    have e2 := pass_eats en l _ t2 q2 h3
    cases h4
    rw [e2]; simp
theorem eats_more {α : Type} (en : Int) (item : List Tok → PR α) (hi : Eats item) : ∀ (f : Nat) (acc : List α), Eats (moreP en item f acc)
  | 0, acc => fun l x r h => by cases h
  | f + 1, acc => fun l x r h => by
    unfold moreP at h
    split at h
    · obtain ⟨t, q, h1, h2⟩ := PR.bind_ok h
      obtain ⟨t2, q2, h3, h4⟩ := PR.bind_ok h2
      have e1 := eats_skip en _ l t q h1
      have e2 := hi q t2 q2 h3
      have e3 := eats_more en item hi f _ q2 x r h4
      omega
    · obtain ⟨t, q, h1, h2⟩ := PR.bind_ok h
      have e1 := eats_skip en _ l t q h1
      cases h2
      exact e1
theorem eats_read {α : Type} (en : Int) (item : List Tok → PR α) (hi : Eats item) : Eats (readP en item) := by
  intro l x r h
  unfold readP at h
  obtain ⟨t, q, h1, h2⟩ := PR.bind_ok h
  have e1 := eats_skip en _ l t q h1
  split at h2
  · obtain ⟨t2, q2, h3, h4⟩ := PR.bind_ok h2
    have e2 := eats_skip en _ q t2 q2 h3
    cases h4
    omega
  · obtain ⟨t2, q2, h3, h4⟩ := PR.bind_ok h2
    have e2 := hi q t2 q2 h3
    have e3 := eats_more en item hi _ _ q2 x r h4
    omega
def opWL : List ByteArray := [⟨#[]⟩, ⟨#[60, 61]⟩, ⟨#[62, 61]⟩, ⟨#[61, 61]⟩, ⟨#[33, 61]⟩]
def goalWL : List ByteArray := [⟨#[97, 110, 121]⟩, ⟨#[108, 101, 97, 115, 116]⟩, ⟨#[109, 111, 115, 116]⟩]
def conWL : List ByteArray := [⟨#[]⟩, ⟨#[108, 101]⟩, ⟨#[101, 113]⟩, ⟨#[110, 101]⟩, ⟨#[100, 105, 102, 102, 101, 114]⟩, ⟨#[101, 108, 101, 109, 101, 110, 116]⟩, ⟨#[116, 97, 98, 108, 101]⟩, ⟨#[116, 105, 109, 101, 115]⟩, ⟨#[109, 97, 120]⟩, ⟨#[99, 108, 97, 117, 115, 101]⟩, ⟨#[105, 102, 102]⟩]
def litP (en : Int) (names : List ByteArray) (l : List Tok) : PR MLit :=
  (nameP en names l).bind fun v l => (oneOfP en opWL l).bind fun op l => (numberP en l).bind fun n l => .ok ⟨v, op, n⟩ l
theorem eats_oneOf (en : Int) (texts : List ByteArray) : Eats (oneOfP en texts) := by
  intro l x r h
  unfold oneOfP at h
  obtain ⟨t, q, h1, h2⟩ := PR.bind_ok h
  have := pass_eats en l _ t q h1
  cases h2
  rw [this]; simp
theorem eats_lit (en : Int) (names : List ByteArray) : Eats (litP en names) := by
  intro l x r h
  unfold litP at h
  obtain ⟨t, q, h1, h2⟩ := PR.bind_ok h
  obtain ⟨t2, q2, h3, h4⟩ := PR.bind_ok h2
  obtain ⟨t3, q3, h5, h6⟩ := PR.bind_ok h4
  have e1 := eats_name en names l t q h1
  have e2 := eats_oneOf en opWL q t2 q2 h3
  have e3 := eats_number en q2 t3 q3 h5
  cases h6
  omega
def varW : ByteArray := ⟨#[118, 97, 114]⟩
def colW : ByteArray := ⟨#[58]⟩
def dotsW : ByteArray := ⟨#[46, 46]⟩
def semiW : ByteArray := ⟨#[59]⟩
def conW : ByteArray := ⟨#[99, 111, 110]⟩
def solveW : ByteArray := ⟨#[115, 111, 108, 118, 101]⟩
def newVarP (en : Int) (l : List Tok) : PR MVar :=
  (skipP en varW l).bind fun _ l => (newNameP en l).bind fun n l => (skipP en colW l).bind fun _ l => (numberP en l).bind fun lo l => (skipP en dotsW l).bind fun _ l => (numberP en l).bind fun hi l => (skipP en semiW l).bind fun _ l => .ok ⟨n, lo, hi⟩ l
def goalP (en : Int) (names : List ByteArray) (l : List Tok) : PR (Int × Int) :=
  (skipP en solveW l).bind fun _ l => (oneOfP en goalWL l).bind fun g l =>
    if g = 0 then (skipP en semiW l).bind fun _ l => .ok (g, 0) l
    else (nameP en names l).bind fun v l => (skipP en semiW l).bind fun _ l => .ok (g, v) l
/-- What a constraint of a kind has behind its word. -/
def bodyP (en : Int) (names : List ByteArray) (k : Int) (l : List Tok) : PR MCon :=
  if k = 1 ∨ k = 2 ∨ k = 3 then (readP en (numberP en) l).bind fun cs l => (readP en (nameP en names) l).bind fun vs l => (numberP en l).bind fun n l => .ok ⟨k, vs, cs, n, [], []⟩ l
  else if k = 4 then (readP en (nameP en names) l).bind fun vs l => .ok ⟨k, vs, [], 0, [], []⟩ l
  else if k = 5 then (readP en (numberP en) l).bind fun cs l => (nameP en names l).bind fun a l => (nameP en names l).bind fun b l => .ok ⟨k, [a, b], cs, 0, [], []⟩ l
  else if k = 6 then (readP en (nameP en names) l).bind fun vs l => (readP en (readP en (numberP en)) l).bind fun rs l => .ok ⟨k, vs, [], 0, rs, []⟩ l
  else if k = 7 then (nameP en names l).bind fun a l => (nameP en names l).bind fun b l => (nameP en names l).bind fun c l => .ok ⟨k, [a, b, c], [], 0, [], []⟩ l
  else if k = 8 then (nameP en names l).bind fun a l => (readP en (nameP en names) l).bind fun vs l => .ok ⟨k, [a] ++ vs, [], 0, [], []⟩ l
  else if k = 9 then (readP en (litP en names) l).bind fun ls l => .ok ⟨k, [], [], 0, [], ls⟩ l
  else if k = 10 then (nameP en names l).bind fun a l => (litP en names l).bind fun t l => .ok ⟨k, [a], [], 0, [], [t]⟩ l
  else .ok ⟨k, [], [], 0, [], []⟩ l
def conP (en : Int) (names : List ByteArray) (l : List Tok) : PR MCon :=
  (skipP en conW l).bind fun _ l => (oneOfP en conWL l).bind fun k l => (bodyP en names k l).bind fun c l => (skipP en semiW l).bind fun _ l => .ok c l
def varsP (en : Int) : Nat → List MVar → List Tok → PR (List MVar)
  | 0, _, _ => .bad 0 0
  | f + 1, acc, l => if (headT en l).text.toList == [118, 97, 114] then (newVarP en l).bind fun v l => varsP en f (acc ++ [v]) l else .ok acc l
def consP (en : Int) (names : List ByteArray) : Nat → List MCon → List Tok → PR (List MCon)
  | 0, _, _ => .bad 0 0
  | f + 1, acc, l => if (headT en l).text.toList == [99, 111, 110] then (conP en names l).bind fun c l => consP en names f (acc ++ [c]) l else .ok acc l
def modelP (en : Int) (l : List Tok) : PR Mod :=
  (varsP en (l.length + 1) [] l).bind fun vs l => (consP en (vs.map MVar.name) (l.length + 1) [] l).bind fun cs l => (goalP en (vs.map MVar.name) l).bind fun g l =>
    if 0 < l.length then .bad (headT en l).place 1 else .ok ⟨vs, cs, g.1, g.2⟩ l
end Go.Proofs.YtdjbejlbmaiocabGreatDoor
/-
  How models lie in memory, and that what is old stays so.
-/
namespace Go.Proofs.YtdjbejlbmaiocabGreatDoor
open Go.RowKit

/-- A list of numbers: a slice value that leads to them. -/
def IArg (w : World) (v : Value) (l : List Int) : Prop :=
  ∃ a c, v = .slice a l.length c ∧ (l.length ≤ c ∧ c ≤ maxLen) ∧ ∀ (i : Nat) (z : Int), l[i]? = some z → ∃ b off, a = some ⟨b, off, none⟩ ∧ b < w.heap.size ∧ w.cell? ⟨b, off + i, none⟩ = some (.int .i64 z)
/-- A list of lists of numbers. -/
def RArg (w : World) (v : Value) (l : List (List Int)) : Prop :=
  ∃ a c, v = .slice a l.length c ∧ (l.length ≤ c ∧ c ≤ maxLen) ∧ ∀ (i : Nat) (r : List Int), l[i]? = some r → ∃ b off x, a = some ⟨b, off, none⟩ ∧ b < w.heap.size ∧ w.cell? ⟨b, off + i, none⟩ = some x ∧ IArg w x r
/-- A list of literals. -/
def LArg (w : World) (v : Value) (l : List MLit) : Prop :=
  ∃ a c, v = .slice a l.length c ∧ (l.length ≤ c ∧ c ≤ maxLen) ∧ ∀ (i : Nat) (t : MLit), l[i]? = some t → ∃ b off, a = some ⟨b, off, none⟩ ∧ b < w.heap.size ∧
    w.cell? ⟨b, off + i * 3, none⟩ = some (.int .i64 t.var) ∧ w.cell? ⟨b, off + i * 3 + 1, none⟩ = some (.int .i64 t.op) ∧ w.cell? ⟨b, off + i * 3 + 2, none⟩ = some (.int .i64 t.n)
/-- A list of variables. -/
def VArg (w : World) (v : Value) (l : List MVar) : Prop :=
  ∃ a c, v = .slice a l.length c ∧ (l.length ≤ c ∧ c ≤ maxLen) ∧ ∀ (i : Nat) (t : MVar), l[i]? = some t → t.name.size ≤ maxLen ∧ ∃ b off, a = some ⟨b, off, none⟩ ∧ b < w.heap.size ∧
    w.cell? ⟨b, off + i * 3, none⟩ = some (.string t.name) ∧ w.cell? ⟨b, off + i * 3 + 1, none⟩ = some (.int .i64 t.lo) ∧ w.cell? ⟨b, off + i * 3 + 2, none⟩ = some (.int .i64 t.hi)
/-- A constraint, by the four values that lead to its lists. -/
def KArg (w : World) (vv vc vr vl : Value) (c : MCon) : Prop := IArg w vv c.vars ∧ IArg w vc c.consts ∧ RArg w vr c.rows ∧ LArg w vl c.lits
def conV (vv vc vr vl : Value) (c : MCon) : Value := .agg #[.int .i64 c.kind, vv, vc, .int .i64 c.n, vr, vl]
/-- A list of constraints. -/
def CArg (w : World) (v : Value) (l : List MCon) : Prop :=
  ∃ a c, v = .slice a l.length c ∧ (l.length ≤ c ∧ c ≤ maxLen) ∧ ∀ (i : Nat) (t : MCon), l[i]? = some t → ∃ b off vv vc vr vl, a = some ⟨b, off, none⟩ ∧ b < w.heap.size ∧
    w.cell? ⟨b, off + i * 6, none⟩ = some (.int .i64 t.kind) ∧ w.cell? ⟨b, off + i * 6 + 1, none⟩ = some vv ∧ w.cell? ⟨b, off + i * 6 + 2, none⟩ = some vc ∧
    w.cell? ⟨b, off + i * 6 + 3, none⟩ = some (.int .i64 t.n) ∧ w.cell? ⟨b, off + i * 6 + 4, none⟩ = some vr ∧ w.cell? ⟨b, off + i * 6 + 5, none⟩ = some vl ∧ KArg w vv vc vr vl t
/-- A model, by the two values that lead to its lists. -/
def MArg (w : World) (vs cs : Value) (m : Mod) : Prop := VArg w vs m.vars ∧ CArg w cs m.cons
def modV (vs cs : Value) (m : Mod) : Value := .agg #[vs, cs, .int .i64 m.goal, .int .i64 m.var]

section
variable {w w' : World} (hb : Below w.heap.size w w')
theorem IArg.below {v : Value} {l : List Int} (hb : Below w.heap.size w w') (h : IArg w v l) : IArg w' v l := by
  obtain ⟨a, c, hv, hm, hr⟩ := h
  refine ⟨a, c, hv, hm, fun i z hz => ?_⟩
  obtain ⟨b, off, ha, hlt, hc⟩ := hr i z hz
  exact ⟨b, off, ha, Nat.lt_of_lt_of_le hlt hb.size, (hb.cell (p := ⟨b, off + i, none⟩) hlt).trans hc⟩
theorem RArg.below {v : Value} {l : List (List Int)} (hb : Below w.heap.size w w') (h : RArg w v l) : RArg w' v l := by
  obtain ⟨a, c, hv, hm, hr⟩ := h
  refine ⟨a, c, hv, hm, fun i z hz => ?_⟩
  obtain ⟨b, off, x, ha, hlt, hc, hx⟩ := hr i z hz
  exact ⟨b, off, x, ha, Nat.lt_of_lt_of_le hlt hb.size, (hb.cell (p := ⟨b, off + i, none⟩) hlt).trans hc, IArg.below hb hx⟩
theorem LArg.below {v : Value} {l : List MLit} (hb : Below w.heap.size w w') (h : LArg w v l) : LArg w' v l := by
  obtain ⟨a, c, hv, hm, hr⟩ := h
  refine ⟨a, c, hv, hm, fun i z hz => ?_⟩
  obtain ⟨b, off, ha, hlt, c0, c1, c2⟩ := hr i z hz
  exact ⟨b, off, ha, Nat.lt_of_lt_of_le hlt hb.size, (hb.cell (p := ⟨b, off + i * 3, none⟩) hlt).trans c0, (hb.cell (p := ⟨b, off + i * 3 + 1, none⟩) hlt).trans c1, (hb.cell (p := ⟨b, off + i * 3 + 2, none⟩) hlt).trans c2⟩
theorem VArg.below {v : Value} {l : List MVar} (hb : Below w.heap.size w w') (h : VArg w v l) : VArg w' v l := by
  obtain ⟨a, c, hv, hm, hr⟩ := h
  refine ⟨a, c, hv, hm, fun i z hz => ?_⟩
  obtain ⟨hs, b, off, ha, hlt, c0, c1, c2⟩ := hr i z hz
  exact ⟨hs, b, off, ha, Nat.lt_of_lt_of_le hlt hb.size, (hb.cell (p := ⟨b, off + i * 3, none⟩) hlt).trans c0, (hb.cell (p := ⟨b, off + i * 3 + 1, none⟩) hlt).trans c1, (hb.cell (p := ⟨b, off + i * 3 + 2, none⟩) hlt).trans c2⟩
theorem KArg.below {vv vc vr vl : Value} {c : MCon} (hb : Below w.heap.size w w') (h : KArg w vv vc vr vl c) : KArg w' vv vc vr vl c :=
  ⟨IArg.below hb h.1, IArg.below hb h.2.1, RArg.below hb h.2.2.1, LArg.below hb h.2.2.2⟩
theorem CArg.below {v : Value} {l : List MCon} (hb : Below w.heap.size w w') (h : CArg w v l) : CArg w' v l := by
  obtain ⟨a, c, hv, hm, hr⟩ := h
  refine ⟨a, c, hv, hm, fun i z hz => ?_⟩
  obtain ⟨b, off, vv, vc, vr, vl, ha, hlt, c0, c1, c2, c3, c4, c5, hk⟩ := hr i z hz
  exact ⟨b, off, vv, vc, vr, vl, ha, Nat.lt_of_lt_of_le hlt hb.size, (hb.cell (p := ⟨b, off + i * 6, none⟩) hlt).trans c0, (hb.cell (p := ⟨b, off + i * 6 + 1, none⟩) hlt).trans c1, (hb.cell (p := ⟨b, off + i * 6 + 2, none⟩) hlt).trans c2,
    (hb.cell (p := ⟨b, off + i * 6 + 3, none⟩) hlt).trans c3, (hb.cell (p := ⟨b, off + i * 6 + 4, none⟩) hlt).trans c4, (hb.cell (p := ⟨b, off + i * 6 + 5, none⟩) hlt).trans c5, KArg.below hb hk⟩
theorem MArg.below {vs cs : Value} {m : Mod} (hb : Below w.heap.size w w') (h : MArg w vs cs m) : MArg w' vs cs m := ⟨VArg.below hb h.1, CArg.below hb h.2⟩
end
theorem below_alloc (w : World) (o : Obj) : Below w.heap.size w (w.alloc o) := (Below.refl _ _).alloc (Nat.le_refl _) o
end Go.Proofs.YtdjbejlbmaiocabGreatDoor
/-
  MEMORY: all blocks but some are as they were; cells of a block; rows stay when a block of another type is written.
-/
namespace Go.Proofs.YtdjbejlbmaiocabGreatDoor
open Go.RowKit

/-- All blocks but some are as they were. -/
structure Fr (X : Nat → Prop) (w w' : World) : Prop where
  os : w'.os = w.os
  tape : w'.tape = w.tape
  output : w'.output = w.output
  size : w.heap.size ≤ w'.heap.size
  block : ∀ k, k < w.heap.size → ¬ X k → w'.heap[k]? = w.heap[k]?
theorem Fr.refl (X : Nat → Prop) (w : World) : Fr X w w := ⟨rfl, rfl, rfl, Nat.le_refl _, fun _ _ _ => rfl⟩
theorem Fr.trans {X : Nat → Prop} {a b c : World} (h : Fr X a b) (k : Fr X b c) : Fr X a c :=
  ⟨k.os.trans h.os, k.tape.trans h.tape, k.output.trans h.output, Nat.le_trans h.size k.size, fun i hi hx => (k.block i (Nat.lt_of_lt_of_le hi h.size) hx).trans (h.block i hi hx)⟩
theorem Fr.below {X : Nat → Prop} {w w' : World} (h : Below w.heap.size w w') : Fr X w w' := ⟨h.os, h.tape, h.output, h.size, fun k hk _ => h.block k hk⟩
theorem Fr.cell {X : Nat → Prop} {w w' : World} (h : Fr X w w') {p : Addr} (hp : p.block < w.heap.size) (hx : ¬ X p.block) : w'.cell? p = w.cell? p := World.cell?_of_block (w := w) (h.block p.block hp hx)

theorem Fr.setX {X : Nat → Prop} {a w : World} (h : Fr X a w) {p : Addr} (hp : X p.block) (u : Value) : Fr X a (w.setCell p u) :=
  ⟨h.os, h.tape, h.output, by simpa using h.size, fun k hk hx => (Below.heap_setCell _ _ _ _ (fun e => hx (by rw [e]; exact hp))).trans (h.block k hk hx)⟩
theorem Fr.setNew {X : Nat → Prop} {a w : World} (h : Fr X a w) {p : Addr} (hp : a.heap.size ≤ p.block) (u : Value) : Fr X a (w.setCell p u) :=
  ⟨h.os, h.tape, h.output, by simpa using h.size, fun k hk hx => (Below.heap_setCell _ _ _ _ (by omega)).trans (h.block k hk hx)⟩
theorem Fr.alloc {X : Nat → Prop} {a w : World} (h : Fr X a w) (o : Obj) : Fr X a (w.alloc o) := h.trans (Fr.below (below_alloc _ _))

theorem blk9 {w : World} {b : Nat} {cs : Array Value} {t : TypeId} (h : w.heap[b]? = some (.cells cs t)) (i : Nat) (v : Value) (hv : cs[i]? = some v) : w.cell? ⟨b, i, none⟩ = some v := by
  rw [Lib.cell_of_heap h]; exact hv
theorem frz9 {w : World} {b : Nat} {cs : Array Value} {t : TypeId} (h : w.heap[b]? = some (.cells cs t)) (i : Nat) : w.frozen? ⟨b, i, none⟩ = false := by
  unfold World.frozen?
  simp only [h]
  simp

theorem own_set {w : World} {B : Nat} {e t : TypeId} {size n : Nat} {v : Value} {xs : List Value} (h : w.ownsRow B e size v n xs) {C : Nat} {cs : Array Value} (hC : w.heap[C]? = some (.cells cs t)) (ht : t ≠ e) (i : Nat) (u : Value) : (w.setCell ⟨C, i, none⟩ u).ownsRow B e size v n xs := by
  refine ⟨h.1, ?_⟩
  rcases h.2 with hn | ⟨g, cap, cur, hv, hg, hh, r⟩
  · exact .inl hn
  · have hne : g ≠ C := by
      intro e1
      rw [e1, hC] at hh
      injection hh with h1
      injection h1 with _ h2
      exact ht h2
    exact .inr ⟨g, cap, cur, hv, hg, (Below.heap_setCell _ _ _ _ hne).trans hh, r⟩
theorem Fr.weak {X Y : Nat → Prop} {w w' : World} (h : Fr X w w') (hXY : ∀ k, X k → Y k) : Fr Y w w' := ⟨h.os, h.tape, h.output, h.size, fun k hk hx => h.block k hk fun hX => hx (hXY k hX)⟩
theorem Fr.grown {X : Nat → Prop} {a w w' : World} {row : Option Nat} (h : Fr X a w) (hg : w.grownBy w' row) (hr : ∀ k, row = some k → X k ∨ a.heap.size ≤ k) : Fr X a w' :=
  ⟨hg.os.trans h.os, hg.tape.trans h.tape, hg.output.trans h.output, Nat.le_trans h.size hg.size, fun k hk hx => (hg.block k (Nat.lt_of_lt_of_le hk h.size) (fun e => (hr k e.symm).elim hx (fun h2 => by omega))).trans (h.block k hk hx)⟩
theorem Fr.toBelow {w w' : World} (h : Fr (fun k => w.heap.size ≤ k) w w') : Below w.heap.size w w' := ⟨h.os, h.tape, h.output, h.size, fun k hk => h.block k hk (by omega)⟩
/-- Two rows of different types lie in different blocks. -/
theorem own_apart {w : World} {B B' : Nat} {e e' : TypeId} {s s' n n' : Nat} {v v' : Value} {xs xs' : List Value} (h : w.ownsRow B e s v n xs) (h' : w.ownsRow B' e' s' v' n' xs') (hne : e ≠ e') : v.ownBlock = none ∨ v.ownBlock ≠ v'.ownBlock := by
  rcases h.2 with ⟨rfl, _⟩ | ⟨g, cap, cur, rfl, hg, hh, _⟩
  · exact Or.inl rfl
  · right
    intro he
    rcases h'.2 with ⟨rfl, _⟩ | ⟨g', cap', cur', rfl, hg', hh', _⟩
    · cases he
    · have : g = g' := by injection he
      subst this
      rw [hh] at hh'
      injection hh' with h1
      injection h1 with _ h2
      exact hne h2
/-- A row stays when another of another type grows. -/
theorem own_grown {w w' : World} {B B' : Nat} {e e' : TypeId} {s s' n n' : Nat} {v v' : Value} {xs xs' : List Value} (h : w.ownsRow B e s v n xs) (hg : w.grownBy w' v'.ownBlock) (h' : w.ownsRow B' e' s' v' n' xs') (hne : e ≠ e') : w'.ownsRow B e s v n xs :=
  h.kept hg (own_apart h h' hne)
theorem blk_grown {w w' : World} {B : Nat} {e : TypeId} {s n : Nat} {v : Value} {xs : List Value} {r : Nat} {cs : Array Value} {t : TypeId} (h : w.heap[r]? = some (.cells cs t)) (hg : w.grownBy w' v.ownBlock) (h' : w.ownsRow B e s v n xs) (hne : t ≠ e) : w'.heap[r]? = some (.cells cs t) := by
  have hlt : r < w.heap.size := (Array.getElem?_eq_some_iff.1 h).1
  refine (hg.block r hlt ?_).trans h
  · intro he
    rcases h'.2 with ⟨rfl, _⟩ | ⟨g, cap, cur, rfl, _, hh, _⟩
    · cases he
    · have : g = r := by injection he with e1; exact e1.symm
      subst this
      rw [hh] at h
      injection h with h1
      injection h1 with _ h2
      exact hne h2.symm
end Go.Proofs.YtdjbejlbmaiocabGreatDoor
/-
  WALKS: package text: the reader: ahead, giveUp, pass, skip.
-/
namespace Go.Proofs.YtdjbejlbmaiocabGreatDoor
open Go.RowKit

/-- Tokens that lie below a block. -/
def TArg (N : Nat) (w : World) (v : Value) (l : List Tok) : Prop :=
  ∃ a c, v = .slice a l.length c ∧ (l.length ≤ c ∧ c ≤ maxLen) ∧ (l.length ≤ 4000 ∧ ∀ t ∈ l, TokOk t) ∧ ∀ (i : Nat) (t : Tok), l[i]? = some t → ∃ b off, a = some ⟨b, off, none⟩ ∧ b < N ∧ w.cell? ⟨b, off + i * 3, none⟩ = some (.int .i64 t.kind) ∧ w.cell? ⟨b, off + i * 3 + 1, none⟩ = some (.int .i64 t.place) ∧ w.cell? ⟨b, off + i * 3 + 2, none⟩ = some (.string t.text)
/-- A reader in memory: its block, its tokens; its map is told of elsewhere. -/
def Rd (N R M : Nat) (en : Int) (w : World) (l : List Tok) : Prop :=
  (N ≤ R ∧ N ≤ w.heap.size ∧ M ≠ R) ∧ ∃ v, w.heap[R]? = some (.cells #[v, .int .i64 en, .map (some M)] 88) ∧ TArg N w v l

theorem TArg.old {N : Nat} {w w' : World} {v : Value} {l : List Tok} (h : TArg N w v l) (hc : ∀ p : Addr, p.block < N → w'.cell? p = w.cell? p) : TArg N w' v l := by
  obtain ⟨a, c, hv, hm, ht, hr⟩ := h
  refine ⟨a, c, hv, hm, ht, fun i t hi => ?_⟩
  obtain ⟨b, off, ha, hlt, c0, c1, c2⟩ := hr i t hi
  exact ⟨b, off, ha, hlt, (hc ⟨b, off + i * 3, none⟩ hlt).trans c0, (hc ⟨b, off + i * 3 + 1, none⟩ hlt).trans c1, (hc ⟨b, off + i * 3 + 2, none⟩ hlt).trans c2⟩
theorem Rd.len {N R M : Nat} {en : Int} {w : World} {l : List Tok} (h : Rd N R M en w l) : l.length ≤ 4000 := by
  obtain ⟨_, v, _, _, _, _, _, ht, _⟩ := h
  exact ht.1
theorem Rd.set {N R M : Nat} {en : Int} {w : World} {l : List Tok} (h : Rd N R M en w l) {p : Addr} (hp : p.block ≠ R) (hN : N ≤ p.block) (u : Value) : Rd N R M en (w.setCell p u) l := by
  obtain ⟨⟨h1, h2, h3⟩, v, hR, ht⟩ := h
  exact ⟨⟨h1, by simpa using h2, h3⟩, v, (Below.heap_setCell _ _ _ _ (Ne.symm hp)).trans hR, ht.old fun q hq => World.cell?_of_block (Below.heap_setCell _ _ _ _ (by omega))⟩
theorem Rd.put {N R M : Nat} {en : Int} {w : World} {l r : List Tok} {v : Value} (h : Rd N R M en w l) (hv : TArg N w v r) : Rd N R M en (w.setCell ⟨R, 0, none⟩ v) r := by
  obtain ⟨⟨h1, h2, h3⟩, v0, hR, _⟩ := h
  refine ⟨⟨h1, by simpa using h2, h3⟩, v, ?_, hv.old fun q hq => World.cell?_of_block (Below.heap_setCell _ _ _ _ (by simp only; omega))⟩
  rw [heap_setCell_same w R 0 _ _ v hR]
  rfl
def tokA (t : Tok) : Value := .agg #[.int .i64 t.kind, .int .i64 t.place, .string t.text]
set_option maxHeartbeats 800000 in
set_option maxRecDepth 100000 in
theorem ahead_any (N R M : Nat) (en : Int) (w : World) (l : List Tok) (h : Rd N R M en w l) :
    Calls Tryz.prog 70 #[.pointer (some ⟨R, 0, none⟩)] w fun e w' => e = .returned (tokA (headT en l)) ∧ Below w.heap.size w w' := by
  obtain ⟨⟨_, hNw, _⟩, v, hR, a, c, rfl, hm, _, hr⟩ := h
  have c0 : w.cell? ⟨R, 0, none⟩ = some (.slice a l.length c) := by rw [Lib.cell_of_heap hR]; rfl
  have c1 : w.cell? ⟨R, 1, none⟩ = some (.int .i64 en) := by rw [Lib.cell_of_heap hR]; rfl
  have hRl : R < w.heap.size := (Array.getElem?_eq_some_iff.1 hR).1
  unfold maxLen at hm
  obtain ⟨hm1, hm⟩ := hm
  cases l with
  | nil =>
    clear hr hR
    go_enter Tryz.func70, Tryz.ntmps70
    go_wp2
    refine bodyPost_ret (by simp [results, Tryz.results70, go_sem, *]; try rfl) rfl ⟨rfl, ?_⟩
    exact below_alloc _ _
  | cons t r =>
    obtain ⟨b, off, rfl, hb, g0, g1, g2⟩ := hr 0 t rfl
    simp only [Nat.zero_mul, Nat.add_zero] at g0 g1 g2
    have hbw : b < w.heap.size := by omega
    have hlen : ((t :: r).length : Int) = (r.length : Int) + 1 := by simp
    clear hr hR
    go_enter Tryz.func70, Tryz.ntmps70
    go_wp2
    refine bodyPost_ret (by simp [results, Tryz.results70, go_sem, *]; try rfl) rfl ⟨rfl, ?_⟩
    exact below_alloc _ _

theorem tokF0 (t : Tok) (w : World) : Sem.run Tryz.prog (Instr.field 79 (.agg #[.int .i64 t.kind, .int .i64 t.place, .string t.text]) 0) w = .ok (.int .i64 t.kind) w := by kernel_rfl
theorem tokF1 (t : Tok) (w : World) : Sem.run Tryz.prog (Instr.field 79 (.agg #[.int .i64 t.kind, .int .i64 t.place, .string t.text]) 1) w = .ok (.int .i64 t.place) w := by kernel_rfl
theorem tokF2 (t : Tok) (w : World) : Sem.run Tryz.prog (Instr.field 79 (.agg #[.int .i64 t.kind, .int .i64 t.place, .string t.text]) 2) w = .ok (.string t.text) w := by kernel_rfl
set_option maxHeartbeats 800000 in
set_option maxRecDepth 100000 in
theorem giveup_any (N R M : Nat) (en er : Int) (w : World) (l : List Tok) (h : Rd N R M en w l) :
    Calls Tryz.prog 74 #[.pointer (some ⟨R, 0, none⟩), .int .i64 er] w fun e w' => e = .panicked [{ v := .iface 83 (.agg #[.int .i64 (headT en l).place, .int .i64 er]), recovered := false }] ∧ Below w.heap.size w w' := by
  have hf1 := tokF1 (headT en l)
  go_enter Tryz.func74, Tryz.ntmps74
  go_wp2_with fail
  refine (ahead_any N R M en _ l h).mono ?_
  rintro e w1 ⟨rfl, hb1⟩
  unfold tokA
  go_wp2
  exact ⟨rfl, rfl, hb1⟩

/-- How a part of the reader ends. -/
def PostR {α : Type} (p : PR α) (G : α → Value → World → Prop) (N R M : Nat) (en : Int) (X : Nat → Prop) (w : World) (e : Ending) (w' : World) : Prop :=
  match p with
  | .ok a r => ∃ v, e = .returned v ∧ G a v w' ∧ Rd N R M en w' r ∧ Fr X w w'
  | .bad x er => e = .panicked [{ v := .iface 83 (.agg #[.int .i64 x, .int .i64 er]), recovered := false }] ∧ Fr X w w'
theorem Rd.below {N R M : Nat} {en : Int} {w w' : World} {l : List Tok} (h : Rd N R M en w l) (hb : Below w.heap.size w w') : Rd N R M en w' l := by
  obtain ⟨⟨h1, h2, h3⟩, v, hR, a, c, hv, hm, ht, hr⟩ := h
  have hRl : R < w.heap.size := (Array.getElem?_eq_some_iff.1 hR).1
  refine ⟨⟨h1, Nat.le_trans h2 hb.size, h3⟩, v, (hb.block R hRl).trans hR, a, c, hv, hm, ht, fun i t hi => ?_⟩
  obtain ⟨b, off, ha, hlt, c0, c1, c2⟩ := hr i t hi
  have hbw : b < w.heap.size := by omega
  exact ⟨b, off, ha, hlt, (hb.cell (p := ⟨b, off + i * 3, none⟩) hbw).trans c0, (hb.cell (p := ⟨b, off + i * 3 + 1, none⟩) hbw).trans c1, (hb.cell (p := ⟨b, off + i * 3 + 2, none⟩) hbw).trans c2⟩

theorem pass_rd {N R M B : Nat} {en : Int} {w1 : World} {l r : List Tok} {v x y z : Value} {o : Obj} (h : Rd N R M en w1 l) (hv : TArg N w1 v r) (hne : B ≠ R) (hN : N ≤ B) :
    Rd N R M en (((((w1.setCell ⟨R, 0, none⟩ v).setCell ⟨B, 0, none⟩ x).setCell ⟨B, 1, none⟩ y).setCell ⟨B, 2, none⟩ z).alloc o) r :=
  ((((h.put hv).set (p := ⟨B, 0, none⟩) hne hN _).set (p := ⟨B, 1, none⟩) hne hN _).set (p := ⟨B, 2, none⟩) hne hN _).below (below_alloc _ _)
theorem pass_fr {R : Nat} {w w1 : World} {v x y z : Value} {o : Obj} (h : Below w.heap.size w w1) :
    Fr (fun k => k = R) w (((((w1.setCell ⟨R, 0, none⟩ v).setCell ⟨w.heap.size, 0, none⟩ x).setCell ⟨w.heap.size, 1, none⟩ y).setCell ⟨w.heap.size, 2, none⟩ z).alloc o) :=
  (((((Fr.below (X := fun k => k = R) h).setX (p := ⟨R, 0, none⟩) rfl _).setNew (p := ⟨w.heap.size, 0, none⟩) (Nat.le_refl _) _).setNew (p := ⟨w.heap.size, 1, none⟩) (Nat.le_refl _) _).setNew (p := ⟨w.heap.size, 2, none⟩) (Nat.le_refl _) _).alloc _
set_option maxHeartbeats 800000 in
set_option maxRecDepth 100000 in
theorem pass_any (N R M : Nat) (en : Int) (fits : Bool) (w : World) (l : List Tok) (h : Rd N R M en w l) (hf : fits = true → l ≠ []) :
    Calls Tryz.prog 114 #[.pointer (some ⟨R, 0, none⟩), .bool fits] w (PostR (passP en fits l) (fun t v _ => v = tokA t) N R M en (fun k => k = R) w) := by
  cases fits
  · have HB : Hid (Rd N R M en w l) := h
    go_enter Tryz.func114, Tryz.ntmps114
    go_wp2_with fail
    refine (giveup_any N R M en 1 _ l (HB.out.below (below_alloc _ _))).mono ?_
    rintro e w1 ⟨rfl, hb1⟩
    go_wp2
    exact ⟨rfl, rfl, Fr.below ((below_alloc _ _).trans (hb1.mono (by simp)))⟩
  · have HB : Hid (Rd N R M en w l) := h
    obtain ⟨t, r, rfl⟩ : ∃ t r, l = t :: r := by
      cases l with
      | nil => exact absurd rfl (hf rfl)
      | cons t r => exact ⟨t, r, rfl⟩
    go_enter Tryz.func114, Tryz.ntmps114
    go_wp2_with fail
    refine (ahead_any N R M en _ (t :: r) (HB.out.below (below_alloc _ _))).mono ?_
    rintro e w1 ⟨rfl, hb1⟩
    have HR1 : Hid (Rd N R M en w1 (t :: r)) := (HB.out.below (below_alloc _ _)).below hb1
    obtain ⟨⟨_, hNw, _⟩, v, hR, a, c, rfl, hm, ht, hr⟩ := HR1.out
    have c0 : w1.cell? ⟨R, 0, none⟩ = some (.slice a (t :: r).length c) := by rw [Lib.cell_of_heap hR]; rfl
    have hRl : R < w1.heap.size := (Array.getElem?_eq_some_iff.1 hR).1
    have z0 : w1.frozen? ⟨R, 0, none⟩ = false := by unfold World.frozen?; simp only [hR]; simp
    obtain ⟨b, off, rfl, hb, _, _, _⟩ := hr 0 t rfl
    unfold maxLen at hm
    obtain ⟨hm1, hm⟩ := hm
    have HB1 : Hid (Below w.heap.size w w1) := (below_alloc _ _).trans (hb1.mono (by simp))
    have HW : w1.heap[w.heap.size]? = some (.cells #[.int .i64 0, .int .i64 0, .string ⟨#[]⟩] 79) := (hb1.block _ (by simp)).trans (by show (w.heap.push _)[w.heap.size]? = _; simp)
    have d0 : w1.cell? ⟨w.heap.size, 0, none⟩ = some (.int .i64 0) := by rw [Lib.cell_of_heap HW]; rfl
    have d1 : w1.cell? ⟨w.heap.size, 1, none⟩ = some (.int .i64 0) := by rw [Lib.cell_of_heap HW]; rfl
    have d2 : w1.cell? ⟨w.heap.size, 2, none⟩ = some (.string ⟨#[]⟩) := by rw [Lib.cell_of_heap HW]; rfl
    have y0 : w1.frozen? ⟨w.heap.size, 0, none⟩ = false := by unfold World.frozen?; simp only [HW]; simp
    have y1 : w1.frozen? ⟨w.heap.size, 1, none⟩ = false := by unfold World.frozen?; simp only [HW]; simp
    have y2 : w1.frozen? ⟨w.heap.size, 2, none⟩ = false := by unfold World.frozen?; simp only [HW]; simp
    have hsw : w.heap.size < w1.heap.size := (Array.getElem?_eq_some_iff.1 HW).1
    have hN0 : N ≤ w.heap.size := HB.out.1.2.1
    have hne : w.heap.size ≠ R := by obtain ⟨_, _, hR0, _⟩ := HB.out; have := (Array.getElem?_eq_some_iff.1 hR0).1; omega
    unfold tokA
    simp only [headT]
    clear hr hR ht hb1 hf h HW
    go_wp2
    · have hr0 : r = [] := by
        rcases r with _ | ⟨x, r⟩
        · rfl
        · simp at hm1; omega
      have HT : TArg N w1 (.slice (some ⟨b, off, none⟩) r.length 0) r := by
        subst hr0
        exact ⟨_, _, rfl, ⟨Nat.le_refl _, Nat.zero_le _⟩, ⟨by simp, fun t ht => by (cases ht)⟩, fun i t hi => by (simp at hi)⟩
      refine bodyPost_ret (by simp [results, Tryz.results114, go_sem, *]; try rfl) rfl ?_
      exact ⟨_, rfl, rfl, pass_rd HR1.out HT hne hN0, pass_fr HB1.out⟩
    · have HT : TArg N w1 (.slice (some ⟨b, off + 3, none⟩) r.length (c - 1)) r := by
        obtain ⟨_, v2, hR2, a2, c2, hv2, hm2, ht2, hr2⟩ := HR1.out
        have hv3 : v2 = .slice (some ⟨b, off, none⟩) (t :: r).length c := by
          have h1 := c0
          rw [Lib.cell_of_heap hR2] at h1
          exact Option.some.inj h1
        rw [hv2] at hv3
        simp only [Value.slice.injEq] at hv3
        obtain ⟨rfl, _, rfl⟩ := hv3
        refine ⟨_, _, rfl, ⟨by simp at hm1; omega, by unfold maxLen; omega⟩, ⟨by have := ht2.1; simp at this; omega, fun x hx => ht2.2 x (List.mem_cons_of_mem _ hx)⟩, fun i x hi => ?_⟩
        obtain ⟨b', off', ha, hlt, q0, q1, q2⟩ := hr2 (i + 1) x (by simpa using hi)
        simp only [Option.some.injEq, Addr.mk.injEq, and_true] at ha
        obtain ⟨rfl, rfl⟩ := ha
        refine ⟨_, _, rfl, hlt, ?_, ?_, ?_⟩
        · rw [show off + 3 + i * 3 = off + (i + 1) * 3 by omega]; exact q0
        · rw [show off + 3 + i * 3 = off + (i + 1) * 3 by omega]; exact q1
        · rw [show off + 3 + i * 3 = off + (i + 1) * 3 by omega]; exact q2
      refine bodyPost_ret (by simp [results, Tryz.results114, go_sem, *]; try rfl) rfl ?_
      exact ⟨_, rfl, rfl, pass_rd HR1.out HT hne hN0, pass_fr HB1.out⟩
end Go.Proofs.YtdjbejlbmaiocabGreatDoor
