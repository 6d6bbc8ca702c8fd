/-
  PART 1 of what the proof leans on (TokPlain, TokA, TokB, TokC, TokS, ModPlain, ModMem, ModA, ModB, ModC).
-/
import Derived.Test.YtdjbejlbmaiocagGreatDoorRows
import Derived.WalkKit
import Derived.WalkSpells
import Derived.WalkLawsBesides
import Derived.Deep.QuietTactic
import Derived.BigQuiet
/-
  PLAIN: what the scanner's functions come to, as functions on bytes; no program in it.
-/
namespace Go.Proofs.YtdjbejlbmaiocagGreatDoor

structure Tok where
  kind : Int
  place : Int
  text : ByteArray

def isL (c : UInt8) : Bool := decide (97 ≤ (c.toNat : Int)) && decide ((c.toNat : Int) ≤ 122)
def isD (c : UInt8) : Bool := decide (48 ≤ (c.toNat : Int)) && decide ((c.toNat : Int) ≤ 57)
def isW (c : UInt8) : Bool := isL c || isD c
def notNl (c : UInt8) : Bool := (c.toNat : Int) != 10
def isB (c : UInt8) : Bool := (c.toNat : Int) == 32 || ((c.toNat : Int) == 9 || (c.toNat : Int) == 10)
def runTo (p : UInt8 → Bool) (l : List UInt8) (k : Nat) : Nat := k + ((l.drop k).takeWhile p).length
def byteAt (l : List UInt8) (k : Nat) : UInt8 := l.getD k 0

theorem runTo_stop (p : UInt8 → Bool) (l : List UInt8) (k : Nat) (h : ∀ h : k < l.length, p l[k] = false) : runTo p l k = k := by
  unfold runTo
  by_cases hk : k < l.length
  · rw [List.drop_eq_getElem_cons hk, List.takeWhile_cons, h hk]; simp
  · rw [List.drop_eq_nil_of_le (by omega)]; simp
theorem runTo_go (p : UInt8 → Bool) (l : List UInt8) (k : Nat) (hk : k < l.length) (h : p l[k] = true) : runTo p l k = runTo p l (k+1) := by
  unfold runTo
  rw [List.drop_eq_getElem_cons hk, List.takeWhile_cons, h]; simp; omega
theorem takeWhile_le (p : UInt8 → Bool) (l : List UInt8) : (l.takeWhile p).length ≤ l.length := by
  induction l with
  | nil => simp
  | cons a r ih => rw [List.takeWhile_cons]; split <;> simp; omega
theorem runTo_le (p : UInt8 → Bool) (l : List UInt8) (k : Nat) (hk : k ≤ l.length) : k ≤ runTo p l k ∧ runTo p l k ≤ l.length := by
  unfold runTo
  have := takeWhile_le p (l.drop k)
  simp at this
  omega
theorem runTo_gt (p : UInt8 → Bool) (l : List UInt8) (k : Nat) (hk : k < l.length) (h : p l[k] = true) : k < runTo p l k := by
  rw [runTo_go p l k hk h]; have := runTo_le p l (k+1) (by omega); omega

/-- How many bytes part tokens, from here on; in a note or not. -/
def skipN : Bool → List UInt8 → Nat
  | _, [] => 0
  | note, c :: r => if note || (c.toNat : Int) == 37 then 1 + skipN (notNl c) r else if isB c then 1 + skipN false r else 0

theorem skipN_le (b : Bool) (l : List UInt8) : skipN b l ≤ l.length := by
  induction l generalizing b with
  | nil => simp [skipN]
  | cons c r ih =>
    unfold skipN
    split
    · have := ih (notNl c); simp; omega
    · split
      · have := ih false; simp; omega
      · simp
theorem skipN_note (l : List UInt8) : skipN true l = (l.takeWhile notNl).length + skipN false (l.drop (l.takeWhile notNl).length) := by
  induction l with
  | nil => simp [skipN]
  | cons c r ih =>
    rw [List.takeWhile_cons]
    cases h : notNl c
    · have h10 : (c.toNat : Int) = 10 := by simpa [notNl] using h
      simp only [Bool.false_eq_true, if_false, List.length_nil, Nat.zero_add, List.drop_zero]
      simp [skipN, h, h10, isB]
    · simp only [if_true, List.length_cons, List.drop_succ_cons]
      simp only [skipN, Bool.true_or, if_true, h]
      rw [ih]; omega

def skipTo (b : Bool) (l : List UInt8) (k : Nat) : Nat := k + skipN b (l.drop k)
theorem skipTo_le (b : Bool) (l : List UInt8) (k : Nat) (hk : k ≤ l.length) : k ≤ skipTo b l k ∧ skipTo b l k ≤ l.length := by
  unfold skipTo
  have := skipN_le b (l.drop k)
  simp at this
  omega
theorem skipTo_end (b : Bool) (l : List UInt8) (k : Nat) (hk : ¬ k < l.length) : skipTo b l k = k := by
  unfold skipTo; rw [List.drop_eq_nil_of_le (by omega)]; simp [skipN]
theorem skipTo_blank (l : List UInt8) (k : Nat) (hk : k < l.length) (h : isB l[k] = true) : skipTo false l k = skipTo false l (k+1) := by
  unfold skipTo
  have h37 : ((l[k].toNat : Int) == 37) = false := by
    simp only [isB, Bool.or_eq_true, beq_iff_eq] at h
    simp only [beq_eq_false_iff_ne]; omega
  rw [List.drop_eq_getElem_cons hk]
  simp only [skipN, h37, h, Bool.false_or, Bool.false_eq_true, if_false, if_true]; omega
theorem skipTo_note (b : Bool) (l : List UInt8) (k : Nat) (hk : k < l.length) (h : (b || (l[k].toNat : Int) == 37) = true) : skipTo b l k = skipTo (notNl l[k]) l (k+1) := by
  unfold skipTo
  rw [List.drop_eq_getElem_cons hk]
  simp only [skipN, h, if_true]; omega
theorem skipTo_percent (l : List UInt8) (k : Nat) (hk : k < l.length) (h : (l[k].toNat : Int) = 37) : skipTo false l k = skipTo false l (runTo notNl l k) := by
  have hn : notNl l[k] = true := by unfold notNl; rw [h]; decide
  rw [skipTo_note false l k hk (by simp [h]), runTo_go notNl l k hk hn, hn]
  unfold skipTo runTo
  rw [skipN_note, List.drop_drop]; omega
theorem skipTo_stop (l : List UInt8) (k : Nat) (hk : k < l.length) (h : isB l[k] = false) (h37 : ((l[k].toNat : Int) == 37) = false) : skipTo false l k = k := by
  unfold skipTo
  rw [List.drop_eq_getElem_cons hk]
  simp [skipN, h, h37]

/-- How long the sign at a text's beginning is; 0: there is none. -/
def sign2 (l : List UInt8) : Bool := (l.take 2 == [46, 46]) || ((l.take 2 == [60, 61]) || ((l.take 2 == [62, 61]) || ((l.take 2 == [61, 61]) || (l.take 2 == [33, 61]))))
def sign1 (c : UInt8) : Bool := ((c.toNat : Int) == 91) || (((c.toNat : Int) == 93) || (((c.toNat : Int) == 59) || (((c.toNat : Int) == 58) || (((c.toNat : Int) == 44) || ((c.toNat : Int) == 45)))))
def signN (l : List UInt8) : Nat := if sign2 l then 2 else if sign1 (byteAt l 0) then 1 else 0
theorem sign2_len (l : List UInt8) (h : sign2 l = true) : 2 ≤ l.length := by
  have : (l.take 2).length = 2 := by
    simp only [sign2, Bool.or_eq_true, beq_iff_eq] at h
    rcases h with h | h | h | h | h <;> rw [h] <;> rfl
  simp at this; omega
theorem signN_le (l : List UInt8) (h : 0 < l.length) : signN l ≤ l.length := by
  unfold signN
  split
  · exact sign2_len l ‹_›
  · split <;> omega

/-- The kind of the token that begins at a place, and where it ends; kind 0: none does. -/
def kindOf (l : List UInt8) (k : Nat) : Nat :=
  if isL (byteAt l k) then 1 else if isD (byteAt l k) then 2 else if signN (l.drop k) = 0 then 0 else 3
def endOf (l : List UInt8) (k : Nat) : Nat :=
  if isL (byteAt l k) then runTo isW l k else if isD (byteAt l k) then runTo isD l k else k + signN (l.drop k)
theorem byteAt_get (l : List UInt8) (k : Nat) (hk : k < l.length) : byteAt l k = l[k] := by simp [byteAt, hk]
theorem endOf_le (l : List UInt8) (k : Nat) (hk : k < l.length) : k ≤ endOf l k ∧ endOf l k ≤ l.length := by
  unfold endOf
  split
  · exact runTo_le _ _ _ (by omega)
  · split
    · exact runTo_le _ _ _ (by omega)
    · have := signN_le (l.drop k) (by simp; omega); simp at this; omega
theorem endOf_gt (l : List UInt8) (k : Nat) (hk : k < l.length) (h : kindOf l k ≠ 0) : k < endOf l k := by
  unfold kindOf at h; unfold endOf
  rw [byteAt_get l k hk] at *
  split
  · refine runTo_gt _ _ _ hk ?_; rename_i h1; simp [isW, h1]
  · split
    · exact runTo_gt _ _ _ hk ‹_›
    · rename_i h1 h2; simp [h1, h2] at h; omega

def tokAt (s : ByteArray) (k : Nat) : Tok :=
  if kindOf s.data.toList k = 0 then ⟨0, 0, ByteArray.empty⟩ else ⟨kindOf s.data.toList k, k, s.extract k (endOf s.data.toList k)⟩
def errOf (kind : Int) (t : ByteArray) : Int :=
  if kind = 1 then (if 12 < t.size then 2 else 0) else if kind = 2 then (if 4 < t.size then 2 else if 1 < t.size ∧ ((byteAt t.data.toList 0).toNat : Int) = 48 then 1 else 0) else if kind = 3 then 0 else 1

/-- The scan: what is gathered, the place, the error. -/
def scanF : Nat → ByteArray → Nat → List Tok → List Tok × Nat × Int
  | 0, _, _, acc => (acc, 0, 0)
  | f + 1, s, k, acc =>
    if skipTo false s.data.toList k < s.size then
      if errOf (tokAt s (skipTo false s.data.toList k)).kind (tokAt s (skipTo false s.data.toList k)).text = 0 then
        scanF f s (endOf s.data.toList (skipTo false s.data.toList k)) (acc ++ [tokAt s (skipTo false s.data.toList k)])
      else ([], skipTo false s.data.toList k, errOf (tokAt s (skipTo false s.data.toList k)).kind (tokAt s (skipTo false s.data.toList k)).text)
    else (acc, 0, 0)
def scanOf (s : ByteArray) : List Tok × Nat × Int := if 4000 < s.size then ([], 0, 2) else scanF (s.size + 1) s 0 []

theorem scanF_end (f : Nat) (s : ByteArray) (k : Nat) (acc : List Tok) (h : ¬ skipTo false s.data.toList k < s.size) : scanF f s k acc = (acc, 0, 0) := by
  cases f with
  | zero => rfl
  | succ f => rw [scanF, if_neg h]
theorem scanF_err (f : Nat) (s : ByteArray) (k j : Nat) (acc : List Tok) (hj : skipTo false s.data.toList k = j) (h : j < s.size) (he : errOf (tokAt s j).kind (tokAt s j).text ≠ 0) :
    scanF (f + 1) s k acc = ([], j, errOf (tokAt s j).kind (tokAt s j).text) := by
  rw [scanF, hj, if_pos h, if_neg he]
theorem scanF_next (f : Nat) (s : ByteArray) (k j : Nat) (acc : List Tok) (hj : skipTo false s.data.toList k = j) (h : j < s.size) (he : errOf (tokAt s j).kind (tokAt s j).text = 0) :
    scanF (f + 1) s k acc = scanF f s (endOf s.data.toList j) (acc ++ [tokAt s j]) := by
  rw [scanF, hj, if_pos h, if_pos he]
theorem kind_of_ok (s : ByteArray) (j : Nat) (he : errOf (tokAt s j).kind (tokAt s j).text = 0) : kindOf s.data.toList j ≠ 0 := by
  intro h
  unfold tokAt at he
  rw [if_pos h] at he
  simp [errOf] at he
theorem size_extract (s : ByteArray) (a b : Nat) (h : b ≤ s.size) : (s.extract a b).size = b - a := by
  simp [ByteArray.size_extract]; omega

end Go.Proofs.YtdjbejlbmaiocagGreatDoor
/-
  WALKS: the scanner's small functions (package token): which bytes go on, what parts tokens, signs, the next token and what is wrong with it.
-/
namespace Go.Proofs.YtdjbejlbmaiocagGreatDoor
open Go.RowKit

theorem ret_int {k : IntKind} {a b : Int} (h : a = b) : Ending.returned (.int k a) = .returned (.int k b) := by rw [h]
theorem ret_bool {a b : Bool} (h : a = b) : Ending.returned (.bool a) = .returned (.bool b) := by rw [h]
theorem list_get (s : ByteArray) (k : Nat) (_h : k < s.size) (h' : k < s.data.toList.length) : s.data.toList[k] = s[k] := by rw [Array.getElem_toList]; rfl

set_option maxHeartbeats 400000 in
theorem nl_any (c : UInt8) (w : World) :
    Calls Tryz.prog 170 #[.int .u8 c.toNat] w fun e w' => e = .returned (.bool (notNl c)) ∧ w' = w := by
  unfold notNl
  go_enter Tryz.func170, Tryz.ntmps170
  go_wp2
  go_ret
  exact ⟨rfl, rfl⟩
set_option maxHeartbeats 400000 in
theorem letter_any (c : UInt8) (w : World) :
    Calls Tryz.prog 171 #[.int .u8 c.toNat] w fun e w' => e = .returned (.bool (isL c)) ∧ w' = w := by
  unfold isL
  go_enter Tryz.func171, Tryz.ntmps171
  go_wp2
  · go_ret; exact ⟨by simp [*], rfl⟩
  · go_ret; refine ⟨by rw [decide_eq_false (by omega)]; rfl, rfl⟩
set_option maxHeartbeats 400000 in
theorem digit_any (c : UInt8) (w : World) :
    Calls Tryz.prog 173 #[.int .u8 c.toNat] w fun e w' => e = .returned (.bool (isD c)) ∧ w' = w := by
  unfold isD
  go_enter Tryz.func173, Tryz.ntmps173
  go_wp2
  · go_ret; exact ⟨by simp [*], rfl⟩
  · go_ret; refine ⟨by rw [decide_eq_false (by omega)]; rfl, rfl⟩
set_option maxHeartbeats 400000 in
theorem word_any (c : UInt8) (w : World) :
    Calls Tryz.prog 172 #[.int .u8 c.toNat] w fun e w' => e = .returned (.bool (isW c)) ∧ w' = w := by
  unfold isW
  cases h : isL c
  all_goals
    go_enter Tryz.func172, Tryz.ntmps172
    go_wp2_with (first | (go_at_call 171; refine (letter_any _ _).mono ?_; rintro e w' ⟨rfl, rfl⟩; rw [h]) | (go_at_call 173; refine (digit_any _ _).mono ?_; rintro e w' ⟨rfl, rfl⟩))
    go_ret; exact ⟨by simp, rfl⟩

set_option maxHeartbeats 400000 in
theorem run_nl (s : ByteArray) (k : Nat) (hk : k ≤ s.size) (hs : s.size ≤ maxLen) (w : World) :
    Calls Tryz.prog 169 #[.string s, .int .i64 k, .func (.func 170) #[] #[]] w fun e w' => e = .returned (.int .i64 (runTo notNl s.data.toList k)) ∧ w' = w := by
  unfold maxLen at hs
  go_enter Tryz.func169, Tryz.ntmps169
  go_wp2
  go_loop [1] (fun i => ∃ m : Nat, m ≤ s.size ∧ i = .int .i64 m ∧ Hid (runTo notNl s.data.toList m = runTo notNl s.data.toList k)) (fun i => s.size - (intOf i).toNat)
  case atStart => exact ⟨k, hk, rfl, rfl⟩
  case round =>
    obtain ⟨m, hm, rfl, hr⟩ := hrel
    by_cases hlt : m < s.size
    · have hl : m < s.data.toList.length := by simpa using hlt
      have hget := list_get s m hlt hl
      cases hp : notNl s[m]
      · have HE : Hid (runTo notNl s.data.toList m = m) := runTo_stop notNl _ m (fun h => by rw [hget]; exact hp)
        have HP : Hid (notNl s[m] = false) := hp
        clear hp hget
        go_wp2_with fail
        refine (nl_any _ _).mono ?_
        rintro e w' ⟨rfl, rfl⟩
        rw [HP.out]
        go_wp2
        go_ret
        exact ⟨ret_int (by rw [← hr.out, HE.out]), rfl⟩
      · have HE : Hid (runTo notNl s.data.toList m = runTo notNl s.data.toList (m+1)) := runTo_go notNl _ m hl (by rw [hget]; exact hp)
        have HP : Hid (notNl s[m] = true) := hp
        clear hp hget
        go_wp2_with fail
        refine (nl_any _ _).mono ?_
        rintro e w' ⟨rfl, rfl⟩
        rw [HP.out]
        go_wp2
        go_round
        case rel => exact ⟨m+1, by omega, by go_num, HE.out ▸ hr.out⟩
        case measure => simp [intOf]; omega
    · have HE : Hid (runTo notNl s.data.toList m = m) := runTo_stop notNl _ m (fun h => by simp at h; omega)
      go_wp2
      go_ret
      exact ⟨ret_int (by rw [← hr.out, HE.out]), rfl⟩
set_option maxHeartbeats 400000 in
theorem run_word (s : ByteArray) (k : Nat) (hk : k ≤ s.size) (hs : s.size ≤ maxLen) (w : World) :
    Calls Tryz.prog 169 #[.string s, .int .i64 k, .func (.func 172) #[] #[]] w fun e w' => e = .returned (.int .i64 (runTo isW s.data.toList k)) ∧ w' = w := by
  unfold maxLen at hs
  go_enter Tryz.func169, Tryz.ntmps169
  go_wp2
  go_loop [1] (fun i => ∃ m : Nat, m ≤ s.size ∧ i = .int .i64 m ∧ Hid (runTo isW s.data.toList m = runTo isW s.data.toList k)) (fun i => s.size - (intOf i).toNat)
  case atStart => exact ⟨k, hk, rfl, rfl⟩
  case round =>
    obtain ⟨m, hm, rfl, hr⟩ := hrel
    by_cases hlt : m < s.size
    · have hl : m < s.data.toList.length := by simpa using hlt
      have hget := list_get s m hlt hl
      cases hp : isW s[m]
      · have HE : Hid (runTo isW s.data.toList m = m) := runTo_stop isW _ m (fun h => by rw [hget]; exact hp)
        have HP : Hid (isW s[m] = false) := hp
        clear hp hget
        go_wp2_with fail
        refine (word_any _ _).mono ?_
        rintro e w' ⟨rfl, rfl⟩
        rw [HP.out]
        go_wp2
        go_ret
        exact ⟨ret_int (by rw [← hr.out, HE.out]), rfl⟩
      · have HE : Hid (runTo isW s.data.toList m = runTo isW s.data.toList (m+1)) := runTo_go isW _ m hl (by rw [hget]; exact hp)
        have HP : Hid (isW s[m] = true) := hp
        clear hp hget
        go_wp2_with fail
        refine (word_any _ _).mono ?_
        rintro e w' ⟨rfl, rfl⟩
        rw [HP.out]
        go_wp2
        go_round
        case rel => exact ⟨m+1, by omega, by go_num, HE.out ▸ hr.out⟩
        case measure => simp [intOf]; omega
    · have HE : Hid (runTo isW s.data.toList m = m) := runTo_stop isW _ m (fun h => by simp at h; omega)
      go_wp2
      go_ret
      exact ⟨ret_int (by rw [← hr.out, HE.out]), rfl⟩
set_option maxHeartbeats 400000 in
theorem run_digit (s : ByteArray) (k : Nat) (hk : k ≤ s.size) (hs : s.size ≤ maxLen) (w : World) :
    Calls Tryz.prog 169 #[.string s, .int .i64 k, .func (.func 173) #[] #[]] w fun e w' => e = .returned (.int .i64 (runTo isD s.data.toList k)) ∧ w' = w := by
  unfold maxLen at hs
  go_enter Tryz.func169, Tryz.ntmps169
  go_wp2
  go_loop [1] (fun i => ∃ m : Nat, m ≤ s.size ∧ i = .int .i64 m ∧ Hid (runTo isD s.data.toList m = runTo isD s.data.toList k)) (fun i => s.size - (intOf i).toNat)
  case atStart => exact ⟨k, hk, rfl, rfl⟩
  case round =>
    obtain ⟨m, hm, rfl, hr⟩ := hrel
    by_cases hlt : m < s.size
    · have hl : m < s.data.toList.length := by simpa using hlt
      have hget := list_get s m hlt hl
      cases hp : isD s[m]
      · have HE : Hid (runTo isD s.data.toList m = m) := runTo_stop isD _ m (fun h => by rw [hget]; exact hp)
        have HP : Hid (isD s[m] = false) := hp
        clear hp hget
        go_wp2_with fail
        refine (digit_any _ _).mono ?_
        rintro e w' ⟨rfl, rfl⟩
        rw [HP.out]
        go_wp2
        go_ret
        exact ⟨ret_int (by rw [← hr.out, HE.out]), rfl⟩
      · have HE : Hid (runTo isD s.data.toList m = runTo isD s.data.toList (m+1)) := runTo_go isD _ m hl (by rw [hget]; exact hp)
        have HP : Hid (isD s[m] = true) := hp
        clear hp hget
        go_wp2_with fail
        refine (digit_any _ _).mono ?_
        rintro e w' ⟨rfl, rfl⟩
        rw [HP.out]
        go_wp2
        go_round
        case rel => exact ⟨m+1, by omega, by go_num, HE.out ▸ hr.out⟩
        case measure => simp [intOf]; omega
    · have HE : Hid (runTo isD s.data.toList m = m) := runTo_stop isD _ m (fun h => by simp at h; omega)
      go_wp2
      go_ret
      exact ⟨ret_int (by rw [← hr.out, HE.out]), rfl⟩

set_option maxHeartbeats 400000 in
theorem sign_any (t : ByteArray) (ht : 0 < t.size) (hs : t.size ≤ maxLen) (w : World) :
    Calls Tryz.prog 174 #[.string t] w fun e w' => e = .returned (.int .i64 (signN t.data.toList)) ∧ w' = w := by
  unfold maxLen at hs
  have he : (t.extract 0 2).toList = t.data.toList.take 2 := by rw [ByteArray.toList_eq]; simp
  have hb : byteAt t.data.toList 0 = t[0] := by rw [byteAt_get _ _ (by simpa using ht)]; exact list_get t 0 ht _
  by_cases h2 : 2 ≤ t.size
  · go_enter Tryz.func174, Tryz.ntmps174
    go_wp2
    all_goals (go_ret; refine ⟨ret_int ?_, rfl⟩; simp_all [signN, sign2, sign1])
  · have hn : sign2 t.data.toList = false := by
      cases h : sign2 t.data.toList
      · rfl
      · have := sign2_len _ h; simp at this; omega
    go_enter Tryz.func174, Tryz.ntmps174
    go_wp2
    all_goals (go_ret; refine ⟨ret_int ?_, rfl⟩; simp_all [signN, sign1])
end Go.Proofs.YtdjbejlbmaiocagGreatDoor
/-
  WALKS: token.skip, token.check, token.next.
-/
namespace Go.Proofs.YtdjbejlbmaiocagGreatDoor
open Go.RowKit

set_option maxHeartbeats 800000 in
theorem skip_any (s : ByteArray) (k : Nat) (hk : k ≤ s.size) (hs : s.size ≤ maxLen) (w : World) :
    Calls Tryz.prog 120 #[.string s, .int .i64 k] w fun e w' => e = .returned (.int .i64 (skipTo false s.data.toList k)) ∧ w' = w := by
  have HS : Hid (s.size ≤ maxLen) := hs
  unfold maxLen at hs
  go_enter Tryz.func120, Tryz.ntmps120
  go_wp2
  go_loop [1] (fun i => ∃ m : Nat, m ≤ s.size ∧ i = .int .i64 m ∧ Hid (skipTo false s.data.toList m = skipTo false s.data.toList k)) (fun i => s.size - (intOf i).toNat)
  case atStart => exact ⟨k, hk, rfl, rfl⟩
  case round =>
    obtain ⟨m, hm, rfl, hr⟩ := hrel
    by_cases hlt : m < s.size
    · have hl : m < s.data.toList.length := by simpa using hlt
      have hget := list_get s m hlt hl
      cases h1 : ((s[m].toNat : Int) == 32)
      · cases h2 : ((s[m].toNat : Int) == 9)
        · cases h3 : ((s[m].toNat : Int) == 10)
          · cases h4 : ((s[m].toNat : Int) == 37)
            · have HE : Hid (skipTo false s.data.toList m = m) := skipTo_stop _ m hl (by rw [hget]; unfold isB; rw [h1, h2, h3]; rfl) (by rw [hget]; exact h4)
              clear hget
              go_wp2
              go_ret
              exact ⟨ret_int (by rw [← hr.out, HE.out]), rfl⟩
            · have HE : Hid (skipTo false s.data.toList m = skipTo false s.data.toList (runTo notNl s.data.toList m)) := skipTo_percent _ m hl (by rw [hget]; simpa using h4)
              have hg : m < runTo notNl s.data.toList m := runTo_gt _ _ _ hl (by rw [hget]; unfold notNl; rw [bne, h3]; rfl)
              have hle : runTo notNl s.data.toList m ≤ s.size := by simpa using (runTo_le notNl _ _ (Nat.le_of_lt hl)).2
              clear hget
              go_wp2_with fail
              refine (run_nl s m hm HS.out _).mono ?_
              rintro e w' ⟨rfl, rfl⟩
              go_wp2
              go_round
              case rel => exact ⟨_, hle, rfl, HE.out ▸ hr.out⟩
              case measure => simp [intOf]; omega
          · have HE : Hid (skipTo false s.data.toList m = skipTo false s.data.toList (m+1)) := skipTo_blank _ m hl (by rw [hget]; unfold isB; rw [h3]; simp)
            clear hget
            go_wp2
            go_round
            case rel => exact ⟨m+1, by omega, by go_num, HE.out ▸ hr.out⟩
            case measure => simp [intOf]; omega
        · have HE : Hid (skipTo false s.data.toList m = skipTo false s.data.toList (m+1)) := skipTo_blank _ m hl (by rw [hget]; unfold isB; rw [h2]; simp)
          clear hget
          go_wp2
          go_round
          case rel => exact ⟨m+1, by omega, by go_num, HE.out ▸ hr.out⟩
          case measure => simp [intOf]; omega
      · have HE : Hid (skipTo false s.data.toList m = skipTo false s.data.toList (m+1)) := skipTo_blank _ m hl (by rw [hget]; unfold isB; rw [h1]; simp)
        clear hget
        go_wp2
        go_round
        case rel => exact ⟨m+1, by omega, by go_num, HE.out ▸ hr.out⟩
        case measure => simp [intOf]; omega
    · have HE : Hid (skipTo false s.data.toList m = m) := skipTo_end _ _ m (by simpa using hlt)
      go_wp2
      go_ret
      exact ⟨ret_int (by rw [← hr.out, HE.out]), rfl⟩

set_option maxHeartbeats 400000 in
theorem check_any (kd a : Int) (t : ByteArray) (hs : t.size ≤ maxLen) (w : World) :
    Calls Tryz.prog 122 #[.agg #[.int .i64 kd, .int .i64 a, .string t]] w fun e w' => e = .returned (.int .i64 (errOf kd t)) ∧ Below w.heap.size w w' := by
  unfold maxLen at hs
  by_cases h0 : 0 < t.size
  · have hb : byteAt t.data.toList 0 = t[0] := by rw [byteAt_get _ _ (by simpa using h0)]; exact list_get t 0 h0 _
    go_enter Tryz.func122, Tryz.ntmps122
    go_wp2
    all_goals
      go_ret
      refine ⟨ret_int ?_, (Below.refl _ _).alloc (Nat.le_refl _) _⟩
      simp only [beq_iff_eq, beq_eq_false_iff_ne] at *
      unfold errOf
      repeat' split
      all_goals first | rfl | omega | (rw [hb] at *; omega)
  · go_enter Tryz.func122, Tryz.ntmps122
    go_wp2
    all_goals
      go_ret
      refine ⟨ret_int ?_, (Below.refl _ _).alloc (Nat.le_refl _) _⟩
      simp only [beq_iff_eq, beq_eq_false_iff_ne] at *
      unfold errOf
      repeat' split
      all_goals first | rfl | omega

theorem drop_data (s : ByteArray) (k : Nat) : (s.extract k s.size).data.toList = s.data.toList.drop k := by
  rw [ByteArray.data_extract, Array.toList_extract]
  simp only [List.extract_eq_take_drop]
  exact List.take_of_length_le (by simp)

set_option maxHeartbeats 400000 in
theorem next_letter (s : ByteArray) (k : Nat) (hk : k < s.size) (hs : s.size ≤ maxLen) (w : World) (hL : isL s[k] = true) :
    Calls Tryz.prog 121 #[.string s, .int .i64 k] w fun e w' => e = .returned (.agg #[.int .i64 1, .int .i64 k, .string (s.extract k (runTo isW s.data.toList k))]) ∧ Below w.heap.size w w' := by
  have HS : Hid (s.size ≤ maxLen) := hs
  unfold maxLen at hs
  have hl : k < s.data.toList.length := by simpa using hk
  have hle : k ≤ runTo isW s.data.toList k := (runTo_le isW _ _ (Nat.le_of_lt hl)).1
  have hle2 : runTo isW s.data.toList k ≤ s.size := by simpa using (runTo_le isW _ _ (Nat.le_of_lt hl)).2
  have HL : Hid (isL s[k] = true) := hL
  clear hL
  go_enter Tryz.func121, Tryz.ntmps121
  go_wp2_with fail
  refine (letter_any _ _).mono ?_
  rintro e w' ⟨rfl, rfl⟩
  rw [HL.out]
  go_wp2_with fail
  refine (run_word s k (by omega) HS.out _).mono ?_
  rintro e w' ⟨rfl, rfl⟩
  go_wp2
  exact bodyPost_ret (v := .agg #[.int .i64 1, .int .i64 k, .string (s.extract k (runTo isW s.data.toList k))]) (by simp [results, Tryz.results121, go_sem]) rfl ⟨rfl, (Below.refl _ _).alloc (Nat.le_refl _) _⟩

set_option maxHeartbeats 400000 in
theorem next_digit (s : ByteArray) (k : Nat) (hk : k < s.size) (hs : s.size ≤ maxLen) (w : World) (hL : isL s[k] = false) (hD : isD s[k] = true) :
    Calls Tryz.prog 121 #[.string s, .int .i64 k] w fun e w' => e = .returned (.agg #[.int .i64 2, .int .i64 k, .string (s.extract k (runTo isD s.data.toList k))]) ∧ Below w.heap.size w w' := by
  have HS : Hid (s.size ≤ maxLen) := hs
  unfold maxLen at hs
  have hl : k < s.data.toList.length := by simpa using hk
  have hle : k ≤ runTo isD s.data.toList k := (runTo_le isD _ _ (Nat.le_of_lt hl)).1
  have hle2 : runTo isD s.data.toList k ≤ s.size := by simpa using (runTo_le isD _ _ (Nat.le_of_lt hl)).2
  have HL : Hid (isL s[k] = false) := hL
  have HD : Hid (isD s[k] = true) := hD
  clear hL hD
  go_enter Tryz.func121, Tryz.ntmps121
  go_wp2_with fail
  refine (letter_any _ _).mono ?_
  rintro e w' ⟨rfl, rfl⟩
  rw [HL.out]
  go_wp2_with fail
  refine (digit_any _ _).mono ?_
  rintro e w' ⟨rfl, rfl⟩
  rw [HD.out]
  go_wp2_with fail
  refine (run_digit s k (by omega) HS.out _).mono ?_
  rintro e w' ⟨rfl, rfl⟩
  go_wp2
  exact bodyPost_ret (v := .agg #[.int .i64 2, .int .i64 k, .string (s.extract k (runTo isD s.data.toList k))]) (by simp [results, Tryz.results121, go_sem]) rfl ⟨rfl, (Below.refl _ _).alloc (Nat.le_refl _) _⟩

set_option maxHeartbeats 400000 in
theorem next_sign (s : ByteArray) (k g : Nat) (hk : k < s.size) (hs : s.size ≤ maxLen) (w : World) (hL : isL s[k] = false) (hD : isD s[k] = false)
    (hg : signN (s.data.toList.drop k) = g) (h0 : 0 < g) :
    Calls Tryz.prog 121 #[.string s, .int .i64 k] w fun e w' => e = .returned (.agg #[.int .i64 3, .int .i64 k, .string (s.extract k (k + g))]) ∧ Below w.heap.size w w' := by
  have hsz : (s.extract k s.size).size = s.size - k := size_extract _ _ _ (Nat.le_refl _)
  have HZ : Hid (0 < (s.extract k s.size).size ∧ (s.extract k s.size).size ≤ maxLen) := ⟨by omega, by omega⟩
  unfold maxLen at hs
  have hle : k + g ≤ s.size := by have := signN_le (s.data.toList.drop k) (by simp; omega); simp at this; omega
  have HL : Hid (isL s[k] = false) := hL
  have HD : Hid (isD s[k] = false) := hD
  have HG : Hid (signN (s.extract k s.size).data.toList = g) := by rw [drop_data]; exact hg
  clear hL hD hg hsz
  go_enter Tryz.func121, Tryz.ntmps121
  go_wp2_with fail
  refine (letter_any _ _).mono ?_
  rintro e w' ⟨rfl, rfl⟩
  rw [HL.out]
  go_wp2_with fail
  refine (digit_any _ _).mono ?_
  rintro e w' ⟨rfl, rfl⟩
  rw [HD.out]
  go_wp2_with fail
  refine (sign_any _ HZ.out.1 HZ.out.2 _).mono ?_
  rintro e w' ⟨rfl, rfl⟩
  rw [HG.out]
  go_wp2
  exact bodyPost_ret (v := .agg #[.int .i64 3, .int .i64 k, .string (s.extract k (k + g))]) (by simp [results, Tryz.results121, go_sem]) rfl ⟨rfl, (Below.refl _ _).alloc (Nat.le_refl _) _⟩

set_option maxHeartbeats 400000 in
theorem next_none (s : ByteArray) (k : Nat) (hk : k < s.size) (hs : s.size ≤ maxLen) (w : World) (hL : isL s[k] = false) (hD : isD s[k] = false)
    (hg : signN (s.data.toList.drop k) = 0) :
    Calls Tryz.prog 121 #[.string s, .int .i64 k] w fun e w' => e = .returned (.agg #[.int .i64 0, .int .i64 0, .string ByteArray.empty]) ∧ Below w.heap.size w w' := by
  have hsz : (s.extract k s.size).size = s.size - k := size_extract _ _ _ (Nat.le_refl _)
  have HZ : Hid (0 < (s.extract k s.size).size ∧ (s.extract k s.size).size ≤ maxLen) := ⟨by omega, by omega⟩
  unfold maxLen at hs
  have HL : Hid (isL s[k] = false) := hL
  have HD : Hid (isD s[k] = false) := hD
  have HG : Hid (signN (s.extract k s.size).data.toList = 0) := by rw [drop_data]; exact hg
  clear hL hD hg hsz
  go_enter Tryz.func121, Tryz.ntmps121
  go_wp2_with fail
  refine (letter_any _ _).mono ?_
  rintro e w' ⟨rfl, rfl⟩
  rw [HL.out]
  go_wp2_with fail
  refine (digit_any _ _).mono ?_
  rintro e w' ⟨rfl, rfl⟩
  rw [HD.out]
  go_wp2_with fail
  refine (sign_any _ HZ.out.1 HZ.out.2 _).mono ?_
  rintro e w' ⟨rfl, rfl⟩
  rw [HG.out]
  go_wp2
  exact bodyPost_ret (v := .agg #[.int .i64 0, .int .i64 0, .string ByteArray.empty]) (by simp [results, Tryz.results121, go_sem]; rfl) rfl ⟨rfl, (Below.refl _ _).alloc (Nat.le_refl _) _⟩

def tokV (t : Tok) : Value := .agg #[.int .i64 t.kind, .int .i64 t.place, .string t.text]

theorem next_any (s : ByteArray) (k : Nat) (hk : k < s.size) (hs : s.size ≤ maxLen) (w : World) :
    Calls Tryz.prog 121 #[.string s, .int .i64 k] w fun e w' => e = .returned (tokV (tokAt s k)) ∧ Below w.heap.size w w' := by
  have hl : k < s.data.toList.length := by simpa using hk
  have hb : byteAt s.data.toList k = s[k] := by rw [byteAt_get _ _ hl]; exact list_get s k hk _
  cases hL : isL s[k]
  · cases hD : isD s[k]
    · by_cases hg : signN (s.data.toList.drop k) = 0
      · have e1 : tokAt s k = ⟨0, 0, ByteArray.empty⟩ := by unfold tokAt kindOf; rw [hb, hL, hD, hg]; rfl
        rw [e1]; exact next_none s k hk hs w hL hD hg
      · have e1 : tokAt s k = ⟨3, k, s.extract k (k + signN (s.data.toList.drop k))⟩ := by
          unfold tokAt kindOf endOf; rw [hb, hL, hD]; simp [hg]
        rw [e1]; exact next_sign s k _ hk hs w hL hD rfl (by omega)
    · have e1 : tokAt s k = ⟨2, k, s.extract k (runTo isD s.data.toList k)⟩ := by
        unfold tokAt kindOf endOf; rw [hb, hL, hD]; simp
      rw [e1]; exact next_digit s k hk hs w hL hD
  · have e1 : tokAt s k = ⟨1, k, s.extract k (runTo isW s.data.toList k)⟩ := by
      unfold tokAt kindOf endOf; rw [hb, hL]; simp
    rw [e1]; exact next_letter s k hk hs w hL
end Go.Proofs.YtdjbejlbmaiocagGreatDoor
/-
  WALK: token.Scan: it answers what 'scanOf' says; its tokens lie in a row of its own.
-/
namespace Go.Proofs.YtdjbejlbmaiocagGreatDoor
open Go.RowKit

theorem Tryz.infoTok : (Tryz.prog.info? 158).map (fun i => (i.zero, i.size, i.bytes)) = some (some (.agg #[.int .i64 0, .int .i64 0, .string ByteArray.empty]), 3, 32) := by kernel_rfl

def tokCells (t : Tok) : List Value := [.int .i64 t.kind, .int .i64 t.place, .string t.text]
def toksCells (l : List Tok) : List Value := l.flatMap tokCells
theorem own_below {w w' : World} {base : Nat} {e : TypeId} {size : Nat} {v : Value} {n : Nat} {xs : List Value} (h : w.ownsRow base e size v n xs) (hb : Below w.heap.size w w') : w'.ownsRow base e size v n xs := by
  refine ⟨h.1, ?_⟩
  rcases h.2 with hn | ⟨g, cap, cur, hv, hg, hh, r⟩
  · exact .inl hn
  · exact .inr ⟨g, cap, cur, hv, hg, by rw [hb.block g (Array.getElem?_eq_some_iff.1 hh).1]; exact hh, r⟩
theorem laid_cells (w : World) (t : Tok) : ∀ (j : Nat) (u : Value), (tokCells t)[j]? = some u →
    (w.alloc (.cells #[.int .i64 t.kind, .int .i64 t.place, .string t.text] 158)).cell? ((⟨w.heap.size, 0, none⟩ : Addr).add j) = some u := by
  intro j u hj
  match j, hj with
  | 0, hj => simp [tokCells] at hj; subst hj; simp [Addr.add]
  | 1, hj => simp [tokCells] at hj; subst hj; simp [Addr.add]
  | 2, hj => simp [tokCells] at hj; subst hj; simp [Addr.add]
theorem tok_oneCell (t : Tok) : ∀ (u : Value), u ∈ tokCells t → u.oneCell' = true := by
  intro u hu
  simp only [tokCells, List.mem_cons, List.not_mem_nil, or_false] at hu
  rcases hu with rfl | rfl | rfl <;> rfl
theorem tokAt_size (s : ByteArray) (j : Nat) : (tokAt s j).text.size ≤ s.size := by
  unfold tokAt
  split
  · simp
  · show (s.extract _ _).size ≤ _
    rw [ByteArray.size_extract]; omega
theorem toksCells_len (l : List Tok) : (toksCells l).length = l.length * 3 := by
  induction l with
  | nil => rfl
  | cons a r ih => simp only [toksCells, List.flatMap_cons, List.length_append] at *; rw [ih]; simp [tokCells]; omega

set_option maxHeartbeats 1000000 in
set_option maxRecDepth 100000 in
theorem scan_any (s : ByteArray) (hs : s.size ≤ 4000) (w : World) :
    Calls Tryz.prog 68 #[.string s] w fun e w' => ∃ v, e = .returned (.tuple #[v, .int .i64 (scanOf s).2.1, .int .i64 (scanOf s).2.2]) ∧
      w'.ownsRow w.heap.size 158 3 v (scanOf s).1.length (toksCells (scanOf s).1) ∧ Below w.heap.size w w' := by
  have HS : Hid (s.size ≤ maxLen) := by show s.size ≤ maxLen; unfold maxLen; omega
  obtain ⟨i0, hi, hz0, hz1, hz2⟩ := info_parts Tryz.infoTok
  obtain ⟨R, hR⟩ : ∃ R, R = scanOf s := ⟨_, rfl⟩
  rw [← hR]
  have HR : Hid (R = scanF (s.size + 1) s 0 []) := by rw [hR]; unfold scanOf; rw [if_neg (by omega)]; rfl
  clear hR
  have h0 := skipTo_le false s.data.toList 0 (Nat.zero_le _)
  go_enter Tryz.func68, Tryz.ntmps68
  go_wp2_with fail
  refine (skip_any s 0 (Nat.zero_le _) HS.out _).mono ?_
  rintro e w ⟨rfl, rfl⟩
  go_wp2_with fail
  go_loopw [5, 6] (fun v i wr => ∃ (k f j : Nat) (acc : List Tok), i = .int .i64 j ∧ Hid (skipTo false s.data.toList k = j) ∧ Hid (R = scanF f s k acc) ∧ s.size < k + f ∧ k ≤ s.size ∧ j ≤ s.size ∧ k ≤ j ∧ acc.length ≤ k ∧
      wr.ownsRow w.heap.size 158 3 v acc.length (toksCells acc) ∧ Below w.heap.size w wr) (fun _ i _ => s.size - (intOf i).toNat)
  case atStart => exact ⟨0, s.size + 1, _, [], rfl, rfl, HR, by omega, by omega, by simpa using h0.2, h0.1, Nat.le_refl _, World.ownsRow_nil _ _ _ _, Below.refl _ _⟩
  case round =>
    obtain ⟨k, f, j, acc, rfl, hj, hR, hf, hk, hjs, hkj, hacc, hown, hbw⟩ := hrel
    by_cases hlt : j < s.size
    · have hl : j < s.data.toList.length := by simpa using hlt
      obtain ⟨f, rfl⟩ : ∃ f', f = f' + 1 := ⟨f - 1, by omega⟩
      obtain ⟨t, ht⟩ : ∃ t, t = tokAt s j := ⟨_, rfl⟩
      have HT : Hid (t = tokAt s j) := ht
      have htx : t.text.size ≤ s.size := by rw [ht]; exact tokAt_size s j
      have HTS : Hid (t.text.size ≤ maxLen) := Nat.le_trans htx HS.out
      have hsz := hbw.size
      clear ht
      by_cases he : errOf t.kind t.text = 0
      · have HR2 : Hid (R = scanF f s (endOf s.data.toList j) (acc ++ [t])) := by rw [hR.out, HT.out]; exact scanF_next f s k j acc hj.out hlt (by rw [← HT.out]; exact he)
        have HER : Hid (errOf t.kind t.text = 0) := he
        have hkd : kindOf s.data.toList j ≠ 0 := kind_of_ok s j (by rw [← HT.out]; exact he)
        have hen : j < endOf s.data.toList j := endOf_gt _ j hl hkd
        have hen2 : endOf s.data.toList j ≤ s.size := by simpa using (endOf_le _ j hl).2
        have HTE : Hid (t.text.size = endOf s.data.toList j - j) := by
          rw [HT.out]; unfold tokAt; rw [if_neg hkd]; exact size_extract _ _ _ hen2
        clear he hkd
        go_wp2_with fail
        refine (next_any s j hlt HS.out _).mono ?_
        rintro e w1 ⟨rfl, hb1⟩
        rw [← HT.out]; unfold tokV
        have hs1 := hb1.size
        go_wp2_with fail
        refine (check_any _ _ _ HTS.out _).mono ?_
        rintro e w2 ⟨rfl, hb2⟩
        rw [HER.out]
        have hs2 : w1.heap.size + 1 ≤ w2.heap.size := by simpa using hb2.size
        have hc0 : w2.cell? ⟨w1.heap.size, 0, none⟩ = some (.int .i64 t.kind) := (hb2.cell (by simp)).trans (by simp)
        have hc1 : w2.cell? ⟨w1.heap.size, 1, none⟩ = some (.int .i64 t.place) := (hb2.cell (by simp)).trans (by simp)
        have hc2 : w2.cell? ⟨w1.heap.size, 2, none⟩ = some (.string t.text) := (hb2.cell (by simp)).trans (by simp)
        have hown2 : w2.ownsRow w.heap.size 158 3 u5 acc.length (toksCells acc) := own_below ((own_below hown hb1).alloc _) hb2
        go_wp2_with (at_builtin; refine wpList_append_own _ rfl _ _ 95 rfl w.heap.size 158 i0 (.agg #[.int .i64 0, .int .i64 0, .string ByteArray.empty]) 3 32 Tryz.underlying95 hi hz0 hz1 hz2 rfl (by decide) _ _ _ rfl (hown2.alloc _) ⟨w2.heap.size, 0, none⟩ 1 1 (tokCells t) rfl rfl ?c1 ?c2 ?c3 ?c4 ?c5 ?_)
        case c1 => exact laid_cells w2 t
        case c2 => exact tok_oneCell t
        case c3 => unfold maxLen; omega
        case c4 => omega
        case c5 => simp; omega
        intro v3 w3 hown3 hgrow _
        have hc3 : w3.cell? ⟨w1.heap.size, 2, none⟩ = some (.string t.text) := hgrow.cell ((World.cell?_alloc_past _ _ _ (by omega)).trans hc2) (by intro h; have hq := (hown.lt _ h.symm).2; simp only at hq; omega)
        have hb3 : Below w.heap.size w w3 := ((((hbw.trans (hb1.mono hsz)).alloc (by omega) _).trans (hb2.mono (by simp; omega))).alloc (by omega) _).grown hgrow (by simp; omega) (fun b h => (hown.lt _ h).1)
        have hown4 : w3.ownsRow w.heap.size 158 3 v3 (acc ++ [t]).length (toksCells (acc ++ [t])) := by
          have e1 : toksCells (acc ++ [t]) = toksCells acc ++ tokCells t := by simp [toksCells]
          rw [e1, List.length_append]; exact hown3
        clear hown3 hgrow hown2 hc0 hc1 hc2 hb2 hb1 hown hbw hs1 hs2 hsz
        have hjt : (j : Int) + (t.text.size : Int) = ((endOf s.data.toList j : Nat) : Int) := by rw [HTE.out]; omega
        have HJT : Hid ((j : Int) + (t.text.size : Int) = ((endOf s.data.toList j : Nat) : Int)) := hjt
        clear hjt
        go_wp2_with fail
        rw [HJT.out]
        refine (skip_any s (endOf s.data.toList j) hen2 HS.out _).mono ?_
        rintro e w3 ⟨rfl, rfl⟩
        have h5 := skipTo_le false s.data.toList (endOf s.data.toList j) (by simpa using hen2)
        have h51 := h5.1
        have h52 : skipTo false s.data.toList (endOf s.data.toList j) ≤ s.size := by simpa using h5.2
        clear h5
        go_wp2
        go_roundw
        case rel => exact ⟨endOf s.data.toList j, f, _, acc ++ [t], rfl, rfl, HR2, by omega, hen2, h52, h51, by simp; omega, hown4, hb3⟩
        case measure => simp [intOf]; omega
      · have HR2 : Hid (R = ([], j, errOf t.kind t.text)) := by rw [hR.out, HT.out]; exact scanF_err f s k j acc hj.out hlt (by rw [← HT.out]; exact he)
        have he' : (errOf t.kind t.text != 0) = true := by simpa using he
        clear he
        obtain ⟨er, HER⟩ : ∃ er, Hid (errOf t.kind t.text = er) := ⟨_, rfl⟩
        rw [HER.out] at HR2 he'
        go_wp2_with fail
        refine (next_any s j hlt HS.out _).mono ?_
        rintro e w1 ⟨rfl, hb1⟩
        rw [← HT.out]; unfold tokV
        have hs1 := hb1.size
        go_wp2_with fail
        refine (check_any _ _ _ HTS.out _).mono ?_
        rintro e w2 ⟨rfl, hb2⟩
        rw [HER.out]
        go_wp2
        go_ret3
        rw [HR2.out]
        exact ⟨_, rfl, World.ownsRow_nil _ _ _ _, ((hbw.trans (hb1.mono hsz)).alloc (by omega) _).trans (hb2.mono (by simp; omega))⟩
    · have HR2 : Hid (R = (acc, 0, 0)) := by rw [hR.out]; exact scanF_end f s k acc (by rw [hj.out]; exact hlt)
      go_wp2
      go_ret3
      rw [HR2.out]
      exact ⟨_, rfl, hown, hbw⟩
end Go.Proofs.YtdjbejlbmaiocagGreatDoor
/-
  WALK: Scan at every text; what its tokens are in memory; PLAIN: which tokens are alone in their text; what is joined of tokens.
-/
namespace Go.Proofs.YtdjbejlbmaiocagGreatDoor
open Go.RowKit

theorem tokAt_some (s : ByteArray) (j n kd : Nat) (hk : kindOf s.data.toList j = kd) (h0 : kd ≠ 0) (hn : endOf s.data.toList j = j + n) : tokAt s j = ⟨kd, j, s.extract j (j + n)⟩ := by
  unfold tokAt; rw [if_neg (by rw [hk]; exact h0), hk, hn]
theorem toksCells_snoc (l : List Tok) (t : Tok) : toksCells (l ++ [t]) = toksCells l ++ tokCells t := by simp [toksCells]
theorem err1_long (t : ByteArray) (h : 12 < t.size) : errOf 1 t = 2 := by unfold errOf; rw [if_pos rfl, if_pos h]
theorem err1_ok (t : ByteArray) (h : ¬ 12 < t.size) : errOf 1 t = 0 := by unfold errOf; rw [if_pos rfl, if_neg h]
theorem err2_long (t : ByteArray) (h : 4 < t.size) : errOf 2 t = 2 := by unfold errOf; rw [if_neg (by decide), if_pos rfl, if_pos h]
theorem err2_nought (t : ByteArray) (h : ¬ 4 < t.size) (h1 : 1 < t.size) (h2 : ((byteAt t.data.toList 0).toNat : Int) = 48) : errOf 2 t = 1 := by
  unfold errOf; rw [if_neg (by decide), if_pos rfl, if_neg h, if_pos ⟨h1, h2⟩]
theorem err2_ok (t : ByteArray) (h : ¬ 4 < t.size) (h1 : 1 < t.size → ((byteAt t.data.toList 0).toNat : Int) ≠ 48) : errOf 2 t = 0 := by
  unfold errOf; rw [if_neg (by decide), if_pos rfl, if_neg h, if_neg (fun h' => h1 h'.1 h'.2)]
theorem err3_ok (t : ByteArray) : errOf 3 t = 0 := rfl
theorem kind_cases (l : List UInt8) (j : Nat) : kindOf l j = 0 ∨ kindOf l j = 1 ∨ kindOf l j = 2 ∨ kindOf l j = 3 := by
  unfold kindOf; repeat' split
  all_goals omega

set_option maxHeartbeats 400000 in
set_option maxRecDepth 100000 in
theorem scan_all (s : ByteArray) (hs : s.size ≤ maxLen) (w : World) :
    Calls Tryz.prog 68 #[.string s] w fun e w' => ∃ v, e = .returned (.tuple #[v, .int .i64 (scanOf s).2.1, .int .i64 (scanOf s).2.2]) ∧
      w'.ownsRow w.heap.size 158 3 v (scanOf s).1.length (toksCells (scanOf s).1) ∧ Below w.heap.size w w' := by
  by_cases h : s.size ≤ 4000
  · exact scan_any s h w
  · unfold maxLen at hs
    have hR : scanOf s = ([], 0, 2) := by unfold scanOf; rw [if_pos (by omega)]
    rw [hR]
    clear hR
    go_enter Tryz.func68, Tryz.ntmps68
    go_wp2
    go_ret3
    exact ⟨_, rfl, World.ownsRow_nil _ _ _ _, Below.refl _ _⟩

theorem drewN_drewN (w : World) (a b : Nat) : (w.drewN a).drewN b = w.drewN (a + b) := by
  unfold World.drewN; simp only [Nat.add_assoc]

/-- The tokens that lie from a place on, three cells each. -/
def tokRow (w : World) (b off : Nat) (ts : List Tok) : Prop :=
  ∀ (i : Nat) (t : Tok), ts[i]? = some t → w.cell? ⟨b, off + i * 3, none⟩ = some (.int .i64 t.kind) ∧ w.cell? ⟨b, off + i * 3 + 1, none⟩ = some (.int .i64 t.place) ∧ w.cell? ⟨b, off + i * 3 + 2, none⟩ = some (.string t.text)

/-- Is a token the only one of its text? -/
def aloneB (t : Tok) : Bool :=
  ((scanOf t.text).2.2 == 0) && (((scanOf t.text).1.length == 1) && (((scanOf t.text).1.headD ⟨0, 0, ByteArray.empty⟩).kind == t.kind && ((scanOf t.text).1.headD ⟨0, 0, ByteArray.empty⟩).text.toList == t.text.toList))

theorem own_form {w : World} {base : Nat} {e : TypeId} {size n : Nat} {v : Value} {xs : List Value} (h : w.ownsRow base e size v n xs) : ∃ a cap, v = .slice a n cap := by
  rcases h.2 with ⟨rfl, rfl⟩ | ⟨g, cap, cur, rfl, _⟩
  · exact ⟨_, _, rfl⟩
  · exact ⟨_, _, rfl⟩
/-- What is owned lies in a row. -/
theorem own_row {w : World} {base : Nat} {v : Value} {ts : List Tok} (h : w.ownsRow base 158 3 v ts.length (toksCells ts)) (h0 : ts ≠ []) :
    ∃ g cap, v = .slice (some ⟨g, 0, none⟩) ts.length cap ∧ base ≤ g ∧ g < w.heap.size ∧ tokRow w g 0 ts := by
  rcases h.2 with ⟨_, hn⟩ | ⟨g, cap, cur, hv, hg, hb, hrest⟩
  · exact absurd (List.eq_nil_of_length_eq_zero hn) h0
  · have hlt : g < w.heap.size := (Array.getElem?_eq_some_iff.1 hb).1
    refine ⟨g, cap, hv, hg, hlt, ?_⟩
    have hc := h.cells (g := g) (by rw [hv]; rfl)
    intro i t ht
    have key : ∀ j, j < 3 → (toksCells ts)[i * 3 + j]? = (tokCells t)[j]? := by
      intro j hj
      clear hc h hrest hb hv h0
      induction ts generalizing i with
      | nil => simp at ht
      | cons a r ih =>
        cases i with
        | zero =>
          simp at ht; subst ht
          simp only [toksCells, List.flatMap_cons]
          rw [List.getElem?_append_left (by simp [tokCells]; omega)]; simp
        | succ i =>
          simp only [toksCells, List.flatMap_cons]
          rw [List.getElem?_append_right (by simp [tokCells]; omega)]
          have e1 : (i + 1) * 3 + j - (tokCells a).length = i * 3 + j := by simp [tokCells]; omega
          rw [e1]
          exact ih i (by simpa using ht)
    have hadd : ∀ j, (⟨g, 0, none⟩ : Addr).add j = ⟨g, 0 + j, none⟩ := fun j => by unfold Addr.add; split <;> simp_all
    refine ⟨?_, ?_, ?_⟩
    · have := hc (i * 3 + 0) _ (by rw [key 0 (by omega)]; rfl); rw [hadd] at this; exact this
    · have := hc (i * 3 + 1) _ (by rw [key 1 (by omega)]; rfl); rw [hadd] at this; exact this
    · have := hc (i * 3 + 2) _ (by rw [key 2 (by omega)]; rfl); rw [hadd] at this; exact this

theorem kind_not_blank (l : List UInt8) (k : Nat) (hk : k < l.length) (h : kindOf l k ≠ 0) : isB l[k] = false ∧ ((l[k].toNat : Int) == 37) = false := by
  have hb := byteAt_get l k hk
  have hb0 : byteAt (l.drop k) 0 = l[k] := by rw [← hb]; unfold byteAt; simp
  unfold kindOf at h
  rw [hb] at h
  have hs : isL l[k] = true ∨ isD l[k] = true ∨ signN (l.drop k) ≠ 0 := by
    cases h1 : isL l[k]
    · cases h2 : isD l[k]
      · right; right; intro h3; simp [h1, h2, h3] at h
      · right; left; rfl
    · left; rfl
  have ne : ∀ n : Int, (n = 32 ∨ n = 9 ∨ n = 10 ∨ n = 37) → (l[k].toNat : Int) ≠ n := by
    intro n hn he
    have e32 : n ≤ 37 := by omega
    rcases hs with h1 | h1 | h1
    · simp only [isL, Bool.and_eq_true, decide_eq_true_eq] at h1; omega
    · simp only [isD, Bool.and_eq_true, decide_eq_true_eq] at h1; omega
    · unfold signN at h1
      split at h1
      · rename_i h2
        rw [List.drop_eq_getElem_cons hk] at h2
        simp only [sign2, Bool.or_eq_true, beq_iff_eq, List.take_succ_cons, List.cons.injEq] at h2
        rcases h2 with h2 | h2 | h2 | h2 | h2 <;> (rw [h2.1] at he; simp at he; omega)
      · split at h1
        · rename_i h2
          rw [hb0] at h2
          simp only [sign1, Bool.or_eq_true, beq_iff_eq] at h2
          omega
        · exact h1 rfl
  refine ⟨?_, by simpa using ne 37 (by omega)⟩
  unfold isB
  rw [show ((l[k].toNat : Int) == 32) = false by simpa using ne 32 (by omega), show ((l[k].toNat : Int) == 9) = false by simpa using ne 9 (by omega), show ((l[k].toNat : Int) == 10) = false by simpa using ne 10 (by omega)]
  rfl

theorem scanF_head (f : Nat) (s : ByteArray) : ∀ (k : Nat) (acc : List Tok), (scanF f s k acc).2.2 = 0 → ∃ r, (scanF f s k acc).1 = acc ++ r := by
  induction f with
  | zero => intro k acc _; exact ⟨[], by simp [scanF]⟩
  | succ f ih =>
    intro k acc h
    by_cases h1 : skipTo false s.data.toList k < s.size
    · by_cases h2 : errOf (tokAt s (skipTo false s.data.toList k)).kind (tokAt s (skipTo false s.data.toList k)).text = 0
      · rw [scanF_next f s k _ acc rfl h1 h2] at h ⊢
        obtain ⟨r, hr⟩ := ih _ _ h
        exact ⟨tokAt s (skipTo false s.data.toList k) :: r, by rw [hr]; simp⟩
      · rw [scanF_err f s k _ acc rfl h1 h2] at h; exact absurd h h2
    · exact ⟨[], by rw [scanF_end _ s k acc h1]; simp⟩

/-- What the reference asks of a token. -/
def isTok (kind : Int) (s : ByteArray) : Bool :=
  decide (0 < s.size) && (decide (s.size ≤ 4000) && (decide (kind ≠ 0) && (decide ((kindOf s.data.toList 0 : Int) = kind) && (decide (endOf s.data.toList 0 = s.size) && decide (errOf kind s = 0)))))

theorem isTok_iff (kind : Int) (s : ByteArray) : isTok kind s = true ↔ 0 < s.size ∧ s.size ≤ 4000 ∧ kind ≠ 0 ∧ (kindOf s.data.toList 0 : Int) = kind ∧ endOf s.data.toList 0 = s.size ∧ errOf kind s = 0 := by
  simp only [isTok, Bool.and_eq_true, decide_eq_true_eq]

theorem whole_extract (s : ByteArray) : s.extract 0 s.size = s := by
  apply ByteArray.ext
  rw [ByteArray.data_extract]; exact Array.extract_size
theorem len_size (s : ByteArray) : s.data.toList.length = s.size := by simp

/-- A text that is one token is scanned as that one. -/
theorem scan_of_isTok (kind : Int) (s : ByteArray) (h : isTok kind s = true) : scanOf s = ([⟨kind, 0, s⟩], 0, 0) := by
  obtain ⟨h0, h4, hk, hkind, hend, herr⟩ := (isTok_iff kind s).1 h
  have hl : 0 < s.data.toList.length := by rw [len_size]; exact h0
  have hkd : kindOf s.data.toList 0 ≠ 0 := by intro h'; rw [h'] at hkind; exact hk hkind.symm
  obtain ⟨hb1, hb2⟩ := kind_not_blank _ 0 hl hkd
  have hsk : skipTo false s.data.toList 0 = 0 := skipTo_stop _ 0 hl hb1 hb2
  have ht : tokAt s 0 = ⟨kind, 0, s⟩ := by
    unfold tokAt; rw [if_neg hkd, hend, hkind, whole_extract]; rfl
  have he : errOf (tokAt s 0).kind (tokAt s 0).text = 0 := by rw [ht]; exact herr
  unfold scanOf
  rw [if_neg (by omega), scanF_next _ s 0 0 [] hsk h0 he, hend, ht]
  rw [scanF_end _ s s.size _ (by rw [skipTo_end _ _ _ (by rw [len_size]; omega)]; omega)]
  simp

theorem alone_iff (t : Tok) : aloneB t = isTok t.kind t.text := by
  cases hi : isTok t.kind t.text
  · cases ha : aloneB t
    · rfl
    · exfalso
      simp only [aloneB, Bool.and_eq_true, beq_iff_eq] at ha
      obtain ⟨h1, h2, h3, h4⟩ := ha
      have h4' : ((scanOf t.text).1.headD ⟨0, 0, ByteArray.empty⟩).text = t.text := by
        rw [ByteArray.toList_eq, ByteArray.toList_eq] at h4
        exact ByteArray.ext (Array.toList_inj.1 h4)
      generalize hs : t.text = s at *
      by_cases hbig : 4000 < s.size
      · unfold scanOf at h1; rw [if_pos hbig] at h1; exact absurd h1 (by decide)
      · unfold scanOf at h1 h2 h3 h4'
        rw [if_neg hbig] at h1 h2 h3 h4'
        by_cases hsk : skipTo false s.data.toList 0 < s.size
        · by_cases he : errOf (tokAt s (skipTo false s.data.toList 0)).kind (tokAt s (skipTo false s.data.toList 0)).text = 0
          · rw [scanF_next _ s 0 _ [] rfl hsk he] at h1 h2 h3 h4'
            obtain ⟨r, hr⟩ := scanF_head _ s _ _ h1
            rw [hr] at h3 h4'
            simp only [List.nil_append, List.cons_append, List.headD_cons] at h3 h4'
            have hkd := kind_of_ok s _ he
            have hl : skipTo false s.data.toList 0 < s.data.toList.length := by rw [len_size]; exact hsk
            have hle := (endOf_le _ _ hl).2
            rw [len_size] at hle
            have hsz : (tokAt s (skipTo false s.data.toList 0)).text.size = endOf s.data.toList (skipTo false s.data.toList 0) - skipTo false s.data.toList 0 := by
              unfold tokAt; rw [if_neg hkd]; exact size_extract _ _ _ hle
            rw [h4'] at hsz
            have hz : skipTo false s.data.toList 0 = 0 := by omega
            rw [hz] at hsz h3 h4' he hkd
            have hk3 : (kindOf s.data.toList 0 : Int) = t.kind := by rw [← h3]; unfold tokAt; rw [if_neg hkd]
            have : isTok t.kind s = true := (isTok_iff _ _).2 ⟨by omega, by omega, by rw [← hk3]; omega, hk3, by omega, by rw [h3, h4'] at he; exact he⟩
            rw [this] at hi; cases hi
          · rw [scanF_err _ s 0 _ [] rfl hsk he] at h1; exact he h1
        · rw [scanF_end _ s 0 [] hsk] at h2; simp at h2
  · have h1 := scan_of_isTok _ _ hi
    unfold aloneB
    rw [h1]; simp

theorem signN_two (l : List UInt8) : signN l ≤ 2 := by
  unfold signN
  split
  · omega
  · split <;> omega
theorem tok_size (kind : Int) (s : ByteArray) (h : isTok kind s = true) : 0 < s.size ∧ s.size ≤ 12 := by
  obtain ⟨h0, h4, hk, hkind, hend, herr⟩ := (isTok_iff kind s).1 h
  refine ⟨h0, ?_⟩
  have hl : 0 < s.data.toList.length := by rw [len_size]; exact h0
  rcases kind_cases s.data.toList 0 with h1 | h1 | h1 | h1
  · rw [h1] at hkind; exact absurd hkind.symm hk
  · rw [h1] at hkind
    have : kind = 1 := hkind.symm
    subst this
    unfold errOf at herr; rw [if_pos rfl] at herr
    split at herr
    · cases herr
    · omega
  · rw [h1] at hkind
    have : kind = 2 := hkind.symm
    subst this
    unfold errOf at herr; rw [if_neg (by decide), if_pos rfl] at herr
    split at herr
    · cases herr
    · omega
  · unfold kindOf at h1
    split at h1
    · cases h1
    · split at h1
      · cases h1
      · rename_i g1 g2
        unfold endOf at hend
        rw [if_neg g1, if_neg g2] at hend
        have : signN (s.data.toList.drop 0) ≤ 2 := signN_two _
        omega

/-- How long what is joined of tokens is, and its bytes. -/
def joinN : List Tok → Nat
  | [] => 0
  | t :: r => t.text.size + (r.map fun u => 1 + u.text.size).sum
def joinL : List Tok → List UInt8
  | [] => []
  | t :: r => t.text.data.toList ++ r.flatMap fun u => 32 :: u.text.data.toList
def joinOf (ts : List Tok) : ByteArray × Int :=
  if ts.all aloneB then (if 4000 < joinN ts then (ByteArray.empty, 2) else (⟨(joinL ts).toArray⟩, 0)) else (ByteArray.empty, 1)

theorem joinN_snoc (l : List Tok) (t : Tok) : joinN (l ++ [t]) = joinN l + (if l.length = 0 then 0 else 1) + t.text.size := by
  cases l with
  | nil => simp [joinN]
  | cons a r => simp [joinN]; omega
theorem joinL_snoc (l : List Tok) (t : Tok) : joinL (l ++ [t]) = joinL l ++ (if l.length = 0 then [] else [32]) ++ t.text.data.toList := by
  cases l with
  | nil => simp [joinL]
  | cons a r => simp [joinL]
theorem joinL_len (l : List Tok) : (joinL l).length = joinN l := by
  cases l with
  | nil => rfl
  | cons a r =>
    simp only [joinL, joinN, List.length_append, len_size, List.length_flatMap]
    congr 2
    apply List.map_congr_left
    intro u _
    simp [Nat.add_comm]
theorem joinN_le (l : List Tok) (h : l.all aloneB = true) : joinN l ≤ 13 * l.length := by
  have h1 : ∀ t ∈ l, t.text.size ≤ 12 := fun t ht => (tok_size t.kind t.text (by rw [← alone_iff]; exact List.all_eq_true.1 h t ht)).2
  cases l with
  | nil => simp [joinN]
  | cons a r =>
    have ha := h1 a (by simp)
    have hr : ∀ q : List Tok, (∀ t ∈ q, t.text.size ≤ 12) → (q.map fun u => 1 + u.text.size).sum ≤ 13 * q.length := by
      intro q
      induction q with
      | nil => simp
      | cons b q ih =>
        intro hq
        have := ih (fun t ht => hq t (by simp [ht]))
        have := hq b (by simp)
        simp only [List.map_cons, List.sum_cons, List.length_cons]; omega
    have := hr r (fun t ht => h1 t (by simp [ht]))
    simp only [joinN, List.length_cons]; omega
end Go.Proofs.YtdjbejlbmaiocagGreatDoor
/-
  PLAIN: models, and what the program's Check says of them, as functions on data; no program in it.
-/
namespace Go.Proofs.YtdjbejlbmaiocagGreatDoor

structure MVar where
  name : ByteArray
  lo : Int
  hi : Int
structure MLit where
  var : Int
  op : Int
  n : Int
structure MCon where
  kind : Int
  vars : List Int
  consts : List Int
  n : Int
  rows : List (List Int)
  lits : List MLit
structure Mod where
  vars : List MVar
  cons : List MCon
  goal : Int
  var : Int

def isWordB (s : ByteArray) : Bool :=
  (s.toList == [118, 97, 114]) || ((s.toList == [99, 111, 110]) || ((s.toList == [115, 111, 108, 118, 101]) || ((s.toList == [108, 101]) || ((s.toList == [101, 113]) || ((s.toList == [110, 101]) || ((s.toList == [100, 105, 102, 102, 101, 114]) || ((s.toList == [101, 108, 101, 109, 101, 110, 116]) || ((s.toList == [116, 97, 98, 108, 101]) || ((s.toList == [116, 105, 109, 101, 115]) || ((s.toList == [109, 97, 120]) || ((s.toList == [99, 108, 97, 117, 115, 101]) || ((s.toList == [105, 102, 102]) || ((s.toList == [97, 110, 121]) || ((s.toList == [108, 101, 97, 115, 116]) || (s.toList == [109, 111, 115, 116])))))))))))))))
def isNameB (s : ByteArray) : Bool := isTok 1 s && !isWordB s
def inB (n most : Int) : Bool := decide (-most ≤ n) && decide (n ≤ most)
def isVarB (v n : Int) : Bool := decide (0 ≤ v) && decide (v < n)
def isConstB (n : Int) : Bool := inB n 1000

def varE (vs : List MVar) (v : MVar) : Int :=
  if isNameB v.name then
    if vs.any (fun u => u.name.toList == v.name.toList) then 6
    else if inB v.lo 50 && (inB v.hi 50 && !decide (v.hi < v.lo)) then (if 6 < v.hi - v.lo + 1 then 2 else 0) else 3
  else 1
/-- The first of some errors that is one. -/
def firstE : List Int → Int
  | [] => 0
  | e :: r => if e = 0 then firstE r else e
def varsE (vs : List MVar) : Int := firstE ((List.range vs.length).map fun i => varE (vs.take i) (vs.getD i ⟨ByteArray.empty, 0, 0⟩))

def manyB (c : MCon) : Bool := decide (4 < c.vars.length) || (decide (4 < c.lits.length) || (decide (8 < c.consts.length) || decide (20 < c.rows.length)))
def formB (c : MCon) : Bool :=
  if c.kind = 1 ∨ c.kind = 2 ∨ c.kind = 3 then decide (1 ≤ c.vars.length) && (decide (c.consts.length = c.vars.length) && decide (c.rows.length + c.lits.length = 0))
  else if c.n ≠ 0 then false
  else if c.kind = 4 then decide (1 ≤ c.vars.length) && decide (c.consts.length + c.rows.length + c.lits.length = 0)
  else if c.kind = 5 then decide (c.vars.length = 2) && (decide (1 ≤ c.consts.length) && decide (c.rows.length + c.lits.length = 0))
  else if c.kind = 6 then decide (1 ≤ c.vars.length) && (decide (c.consts.length + c.lits.length = 0) && c.rows.all fun r => decide (r.length = c.vars.length))
  else if c.kind = 7 then decide (c.vars.length = 3) && decide (c.consts.length + c.rows.length + c.lits.length = 0)
  else if c.kind = 8 then decide (2 ≤ c.vars.length) && decide (c.consts.length + c.rows.length + c.lits.length = 0)
  else if c.kind = 9 then decide (c.vars.length + c.consts.length + c.rows.length = 0)
  else if c.kind = 10 then decide (c.vars.length = 1) && (decide (c.lits.length = 1) && decide (c.consts.length + c.rows.length = 0))
  else false
def varsB (c : MCon) (n : Int) : Bool := c.vars.all (fun v => isVarB v n) && c.lits.all (fun l => isVarB l.var n)
def constsB (c : MCon) : Bool := c.consts.all isConstB && (isConstB c.n && c.rows.all fun r => r.all isConstB)
def litsE (ls : List MLit) : Int :=
  if ls.all (fun l => decide (1 ≤ l.op) && decide (l.op ≤ 4)) then (if ls.all (fun l => isConstB l.n) then 0 else 3) else 7
def conE (n : Int) (c : MCon) : Int :=
  if 1 ≤ c.kind ∧ c.kind ≤ 10 then (if manyB c then 2 else if formB c then (if varsB c n then (if constsB c then litsE c.lits else 3) else 5) else 1) else 7
def consE (m : Mod) : Int := firstE (m.cons.map (conE m.vars.length))
def goalE (m : Mod) : Int :=
  if m.goal = 0 then (if m.var = 0 then 0 else 1) else if m.goal = 1 ∨ m.goal = 2 then (if isVarB m.var m.vars.length then 0 else 5) else 7
def checkM (m : Mod) : Int :=
  if m.vars.length = 0 then 1 else if 6 < m.vars.length ∨ 8 < m.cons.length then 2
  else if varsE m.vars = 0 then (if consE m = 0 then goalE m else consE m) else varsE m.vars

theorem firstE_append (a b : List Int) : firstE (a ++ b) = if firstE a = 0 then firstE b else firstE a := by
  induction a with
  | nil => simp [firstE]
  | cons e r ih =>
    simp only [List.cons_append, firstE]
    by_cases h : e = 0
    · simp only [h, if_true]; exact ih
    · simp only [h, if_false]
theorem range_take_snoc (n k : Nat) (h : k < n) (f : Nat → Int) : ((List.range n).map f).take (k + 1) = ((List.range n).map f).take k ++ [f k] := by
  rw [List.take_add_one]; simp [h]
/-- Once an error is met it is the answer. -/
theorem firstE_hit (l : List Int) (k : Nat) (e : Int) (h0 : firstE (l.take k) = 0) (hk : l[k]? = some e) (he : e ≠ 0) : firstE l = e := by
  have hs : l = l.take k ++ l.drop k := (List.take_append_drop k l).symm
  rw [hs, firstE_append, if_pos h0]
  have hlt := (List.getElem?_eq_some_iff.1 hk).1
  rw [List.drop_eq_getElem_cons hlt]
  have : l[k] = e := by rw [List.getElem?_eq_getElem hlt] at hk; exact Option.some.inj hk
  rw [this, firstE, if_neg he]
theorem firstE_step (l : List Int) (k : Nat) (h0 : firstE (l.take k) = 0) (hk : l[k]? = some 0) : firstE (l.take (k + 1)) = 0 := by
  rw [List.take_add_one, hk, firstE_append, if_pos h0]; rfl
theorem firstE_all (l : List Int) (h : firstE l = 0) : ∀ e ∈ l, e = 0 := by
  induction l with
  | nil => intro e he; cases he
  | cons a r ih =>
    unfold firstE at h
    by_cases h0 : a = 0
    · rw [if_pos h0] at h
      intro e he
      rcases List.mem_cons.1 he with rfl | he
      · exact h0
      · exact ih h e he
    · rw [if_neg h0] at h; exact absurd h h0
theorem checkM_vars (m : Mod) (h : checkM m = 0) : 1 ≤ m.vars.length ∧ m.vars.length ≤ 6 ∧ m.cons.length ≤ 8 ∧ varsE m.vars = 0 ∧ consE m = 0 ∧ goalE m = 0 := by
  unfold checkM at h
  by_cases h0 : m.vars.length = 0
  · rw [if_pos h0] at h; cases h
  · rw [if_neg h0] at h
    by_cases h1 : 6 < m.vars.length ∨ 8 < m.cons.length
    · rw [if_pos h1] at h; cases h
    · rw [if_neg h1] at h
      by_cases h2 : varsE m.vars = 0
      · rw [if_pos h2] at h
        by_cases h3 : consE m = 0
        · rw [if_pos h3] at h; exact ⟨by omega, by omega, by omega, h2, h3, h⟩
        · rw [if_neg h3] at h; exact absurd h h3
      · rw [if_neg h2] at h; exact absurd h h2
theorem varE_ok (vs : List MVar) (v : MVar) (h : varE vs v = 0) : -50 ≤ v.lo ∧ v.hi ≤ 50 ∧ v.lo ≤ v.hi ∧ v.hi - v.lo + 1 ≤ 6 := by
  unfold varE at h
  split at h
  · split at h
    · cases h
    · split at h
      · rename_i h1
        simp only [inB, Bool.and_eq_true, decide_eq_true_eq, Bool.not_eq_true', decide_eq_false_iff_not] at h1
        split at h
        · cases h
        · omega
      · cases h
  · cases h
theorem var_ok (m : Mod) (h : checkM m = 0) (i : Nat) (v : MVar) (hv : m.vars[i]? = some v) : -50 ≤ v.lo ∧ v.hi ≤ 50 ∧ v.lo ≤ v.hi ∧ v.hi - v.lo + 1 ≤ 6 := by
  have h1 := (checkM_vars m h).2.2.2.1
  have h2 := firstE_all _ h1 (varE (m.vars.take i) v) (by
    have hi : i < m.vars.length := (List.getElem?_eq_some_iff.1 hv).1
    refine List.mem_map.2 ⟨i, List.mem_range.2 hi, ?_⟩
    rw [List.getD_eq_getElem?_getD, hv]; rfl)
  exact varE_ok _ _ h2
theorem con_ok (m : Mod) (h : checkM m = 0) (i : Nat) (c : MCon) (hc : m.cons[i]? = some c) : conE m.vars.length c = 0 := by
  have h1 := (checkM_vars m h).2.2.2.2.1
  exact firstE_all _ h1 _ (List.mem_map.2 ⟨c, List.mem_of_getElem? hc, rfl⟩)
/-- Does a literal hold of a value? -/
def litV (x : Int) (l : MLit) : Bool :=
  if l.op = 1 then decide (x ≤ l.n) else if l.op = 2 then decide (l.n ≤ x) else if l.op = 3 then x == l.n else if l.op = 4 then x != l.n else false
end Go.Proofs.YtdjbejlbmaiocagGreatDoor
/-
  How models lie in memory, and that what is old stays so.
-/
namespace Go.Proofs.YtdjbejlbmaiocagGreatDoor
open Go.RowKit

/-- A list of numbers: a slice value that leads to them. -/
def IArg (w : World) (v : Value) (l : List Int) : Prop :=
  ∃ a c, v = .slice a l.length c ∧ (l.length ≤ c ∧ c ≤ maxLen) ∧ ∀ (i : Nat) (z : Int), l[i]? = some z → ∃ b off, a = some ⟨b, off, none⟩ ∧ b < w.heap.size ∧ w.cell? ⟨b, off + i, none⟩ = some (.int .i64 z)
/-- A list of lists of numbers. -/
def RArg (w : World) (v : Value) (l : List (List Int)) : Prop :=
  ∃ a c, v = .slice a l.length c ∧ (l.length ≤ c ∧ c ≤ maxLen) ∧ ∀ (i : Nat) (r : List Int), l[i]? = some r → ∃ b off x, a = some ⟨b, off, none⟩ ∧ b < w.heap.size ∧ w.cell? ⟨b, off + i, none⟩ = some x ∧ IArg w x r
/-- A list of literals. -/
def LArg (w : World) (v : Value) (l : List MLit) : Prop :=
  ∃ a c, v = .slice a l.length c ∧ (l.length ≤ c ∧ c ≤ maxLen) ∧ ∀ (i : Nat) (t : MLit), l[i]? = some t → ∃ b off, a = some ⟨b, off, none⟩ ∧ b < w.heap.size ∧
    w.cell? ⟨b, off + i * 3, none⟩ = some (.int .i64 t.var) ∧ w.cell? ⟨b, off + i * 3 + 1, none⟩ = some (.int .i64 t.op) ∧ w.cell? ⟨b, off + i * 3 + 2, none⟩ = some (.int .i64 t.n)
/-- A list of variables. -/
def VArg (w : World) (v : Value) (l : List MVar) : Prop :=
  ∃ a c, v = .slice a l.length c ∧ (l.length ≤ c ∧ c ≤ maxLen) ∧ ∀ (i : Nat) (t : MVar), l[i]? = some t → t.name.size ≤ maxLen ∧ ∃ b off, a = some ⟨b, off, none⟩ ∧ b < w.heap.size ∧
    w.cell? ⟨b, off + i * 3, none⟩ = some (.string t.name) ∧ w.cell? ⟨b, off + i * 3 + 1, none⟩ = some (.int .i64 t.lo) ∧ w.cell? ⟨b, off + i * 3 + 2, none⟩ = some (.int .i64 t.hi)
/-- A constraint, by the four values that lead to its lists. -/
def KArg (w : World) (vv vc vr vl : Value) (c : MCon) : Prop := IArg w vv c.vars ∧ IArg w vc c.consts ∧ RArg w vr c.rows ∧ LArg w vl c.lits
def conV (vv vc vr vl : Value) (c : MCon) : Value := .agg #[.int .i64 c.kind, vv, vc, .int .i64 c.n, vr, vl]
/-- A list of constraints. -/
def CArg (w : World) (v : Value) (l : List MCon) : Prop :=
  ∃ a c, v = .slice a l.length c ∧ (l.length ≤ c ∧ c ≤ maxLen) ∧ ∀ (i : Nat) (t : MCon), l[i]? = some t → ∃ b off vv vc vr vl, a = some ⟨b, off, none⟩ ∧ b < w.heap.size ∧
    w.cell? ⟨b, off + i * 6, none⟩ = some (.int .i64 t.kind) ∧ w.cell? ⟨b, off + i * 6 + 1, none⟩ = some vv ∧ w.cell? ⟨b, off + i * 6 + 2, none⟩ = some vc ∧
    w.cell? ⟨b, off + i * 6 + 3, none⟩ = some (.int .i64 t.n) ∧ w.cell? ⟨b, off + i * 6 + 4, none⟩ = some vr ∧ w.cell? ⟨b, off + i * 6 + 5, none⟩ = some vl ∧ KArg w vv vc vr vl t
/-- A model, by the two values that lead to its lists. -/
def MArg (w : World) (vs cs : Value) (m : Mod) : Prop := VArg w vs m.vars ∧ CArg w cs m.cons
def modV (vs cs : Value) (m : Mod) : Value := .agg #[vs, cs, .int .i64 m.goal, .int .i64 m.var]

section
variable {w w' : World} (hb : Below w.heap.size w w')
theorem IArg.below {v : Value} {l : List Int} (hb : Below w.heap.size w w') (h : IArg w v l) : IArg w' v l := by
  obtain ⟨a, c, hv, hm, hr⟩ := h
  refine ⟨a, c, hv, hm, fun i z hz => ?_⟩
  obtain ⟨b, off, ha, hlt, hc⟩ := hr i z hz
  exact ⟨b, off, ha, Nat.lt_of_lt_of_le hlt hb.size, (hb.cell (p := ⟨b, off + i, none⟩) hlt).trans hc⟩
theorem RArg.below {v : Value} {l : List (List Int)} (hb : Below w.heap.size w w') (h : RArg w v l) : RArg w' v l := by
  obtain ⟨a, c, hv, hm, hr⟩ := h
  refine ⟨a, c, hv, hm, fun i z hz => ?_⟩
  obtain ⟨b, off, x, ha, hlt, hc, hx⟩ := hr i z hz
  exact ⟨b, off, x, ha, Nat.lt_of_lt_of_le hlt hb.size, (hb.cell (p := ⟨b, off + i, none⟩) hlt).trans hc, IArg.below hb hx⟩
theorem LArg.below {v : Value} {l : List MLit} (hb : Below w.heap.size w w') (h : LArg w v l) : LArg w' v l := by
  obtain ⟨a, c, hv, hm, hr⟩ := h
  refine ⟨a, c, hv, hm, fun i z hz => ?_⟩
  obtain ⟨b, off, ha, hlt, c0, c1, c2⟩ := hr i z hz
  exact ⟨b, off, ha, Nat.lt_of_lt_of_le hlt hb.size, (hb.cell (p := ⟨b, off + i * 3, none⟩) hlt).trans c0, (hb.cell (p := ⟨b, off + i * 3 + 1, none⟩) hlt).trans c1, (hb.cell (p := ⟨b, off + i * 3 + 2, none⟩) hlt).trans c2⟩
theorem VArg.below {v : Value} {l : List MVar} (hb : Below w.heap.size w w') (h : VArg w v l) : VArg w' v l := by
  obtain ⟨a, c, hv, hm, hr⟩ := h
  refine ⟨a, c, hv, hm, fun i z hz => ?_⟩
  obtain ⟨hs, b, off, ha, hlt, c0, c1, c2⟩ := hr i z hz
  exact ⟨hs, b, off, ha, Nat.lt_of_lt_of_le hlt hb.size, (hb.cell (p := ⟨b, off + i * 3, none⟩) hlt).trans c0, (hb.cell (p := ⟨b, off + i * 3 + 1, none⟩) hlt).trans c1, (hb.cell (p := ⟨b, off + i * 3 + 2, none⟩) hlt).trans c2⟩
theorem KArg.below {vv vc vr vl : Value} {c : MCon} (hb : Below w.heap.size w w') (h : KArg w vv vc vr vl c) : KArg w' vv vc vr vl c :=
  ⟨IArg.below hb h.1, IArg.below hb h.2.1, RArg.below hb h.2.2.1, LArg.below hb h.2.2.2⟩
theorem CArg.below {v : Value} {l : List MCon} (hb : Below w.heap.size w w') (h : CArg w v l) : CArg w' v l := by
  obtain ⟨a, c, hv, hm, hr⟩ := h
  refine ⟨a, c, hv, hm, fun i z hz => ?_⟩
  obtain ⟨b, off, vv, vc, vr, vl, ha, hlt, c0, c1, c2, c3, c4, c5, hk⟩ := hr i z hz
  exact ⟨b, off, vv, vc, vr, vl, ha, Nat.lt_of_lt_of_le hlt hb.size, (hb.cell (p := ⟨b, off + i * 6, none⟩) hlt).trans c0, (hb.cell (p := ⟨b, off + i * 6 + 1, none⟩) hlt).trans c1, (hb.cell (p := ⟨b, off + i * 6 + 2, none⟩) hlt).trans c2,
    (hb.cell (p := ⟨b, off + i * 6 + 3, none⟩) hlt).trans c3, (hb.cell (p := ⟨b, off + i * 6 + 4, none⟩) hlt).trans c4, (hb.cell (p := ⟨b, off + i * 6 + 5, none⟩) hlt).trans c5, KArg.below hb hk⟩
theorem MArg.below {vs cs : Value} {m : Mod} (hb : Below w.heap.size w w') (h : MArg w vs cs m) : MArg w' vs cs m := ⟨VArg.below hb h.1, CArg.below hb h.2⟩
end
theorem below_alloc (w : World) (o : Obj) : Below w.heap.size w (w.alloc o) := (Below.refl _ _).alloc (Nat.le_refl _) o
end Go.Proofs.YtdjbejlbmaiocagGreatDoor
/-
  WALKS: package model: names, variables.
-/
namespace Go.Proofs.YtdjbejlbmaiocagGreatDoor
open Go.RowKit

set_option maxHeartbeats 400000 in
theorem within_any (n most : Int) (h0 : 0 ≤ most) (h1 : most ≤ 1000) (w : World) :
    Calls Tryz.prog 98 #[.int .i64 n, .int .i64 most] w fun e w' => e = .returned (.bool (inB n most)) ∧ w' = w := by
  unfold inB
  go_enter Tryz.func98, Tryz.ntmps98
  go_wp2
  · go_ret; exact ⟨ret_bool (by simp [*]), rfl⟩
  · go_ret; exact ⟨ret_bool (by rw [decide_eq_false (p := -most ≤ n) (by omega)]; rfl), rfl⟩

set_option maxHeartbeats 1000000 in
set_option maxRecDepth 100000 in
theorem word_is (s : ByteArray) (w : World) :
    Calls Tryz.prog 211 #[.string s] w fun e w' => e = .returned (.bool (isWordB s)) ∧ w' = w := by
  go_enter Tryz.func211, Tryz.ntmps211
  go_wp2
  all_goals (go_ret; refine ⟨ret_bool ?_, rfl⟩; simp_all [isWordB])

set_option maxHeartbeats 1000000 in
set_option maxRecDepth 100000 in
theorem name_is (s : ByteArray) (hs : s.size ≤ maxLen) (w : World) :
    Calls Tryz.prog 144 #[.string s] w fun e w' => e = .returned (.bool (isNameB s)) ∧ Below w.heap.size w w' := by
  rcases hR : scanOf s with ⟨ts, pl, er⟩
  have hA : isNameB s = (((er == 0) && ((ts.length == 1) && ((ts.headD ⟨0, 0, ByteArray.empty⟩).kind == 1 && (ts.headD ⟨0, 0, ByteArray.empty⟩).text.toList == s.toList))) && !isWordB s) := by
    unfold isNameB; rw [← alone_iff ⟨1, 0, s⟩]; unfold aloneB; rw [hR]
  have HR : Hid (scanOf s = (ts, pl, er)) := hR
  have HS : Hid (s.size ≤ maxLen) := hs
  clear hR hs
  by_cases her : er = 0
  · subst her
    by_cases hl : ts.length = 1
    · obtain ⟨u, rfl⟩ : ∃ u, ts = [u] := List.length_eq_one_iff.1 hl
      clear hl
      cases hkd : (u.kind == 1)
      · have hA2 : isNameB s = false := by rw [hA]; simp only [List.headD_cons]; rw [hkd]; rfl
        rw [hA2]; clear hA hA2
        go_enter Tryz.func144, Tryz.ntmps144
        go_wp2_with fail
        refine (scan_all s HS.out _).mono ?_
        rintro e w1 ⟨v, rfl, hown, hb1⟩
        rw [HR.out] at hown ⊢
        obtain ⟨g, cap, rfl, _, _, hrow⟩ := own_row hown (by simp)
        obtain ⟨c0, c1, c2⟩ := hrow 0 u rfl
        clear hrow hown
        simp only [Nat.zero_mul, Nat.add_zero, Nat.zero_add] at c0 c1 c2
        go_wp2
        go_ret
        exact ⟨rfl, hb1⟩
      · cases htx : (u.text.toList == s.toList)
        · have hA2 : isNameB s = false := by rw [hA]; simp only [List.headD_cons]; rw [hkd, htx]; rfl
          rw [hA2]; clear hA hA2
          go_enter Tryz.func144, Tryz.ntmps144
          go_wp2_with fail
          refine (scan_all s HS.out _).mono ?_
          rintro e w1 ⟨v, rfl, hown, hb1⟩
          rw [HR.out] at hown ⊢
          obtain ⟨g, cap, rfl, _, _, hrow⟩ := own_row hown (by simp)
          obtain ⟨c0, c1, c2⟩ := hrow 0 u rfl
          clear hrow hown
          simp only [Nat.zero_mul, Nat.add_zero, Nat.zero_add] at c0 c1 c2
          go_wp2
          go_ret
          exact ⟨rfl, hb1⟩
        · have hA2 : isNameB s = !isWordB s := by rw [hA]; simp only [List.headD_cons]; rw [hkd, htx]; rfl
          rw [hA2]; clear hA hA2
          go_enter Tryz.func144, Tryz.ntmps144
          go_wp2_with fail
          refine (scan_all s HS.out _).mono ?_
          rintro e w1 ⟨v, rfl, hown, hb1⟩
          rw [HR.out] at hown ⊢
          obtain ⟨g, cap, rfl, _, _, hrow⟩ := own_row hown (by simp)
          obtain ⟨c0, c1, c2⟩ := hrow 0 u rfl
          clear hrow hown
          simp only [Nat.zero_mul, Nat.add_zero, Nat.zero_add] at c0 c1 c2
          go_wp2_with fail
          refine (word_is _ _).mono ?_
          rintro e w1 ⟨rfl, rfl⟩
          go_wp2
          go_ret
          exact ⟨rfl, hb1⟩
    · have hl2 : ((ts.length : Int) == 1) = false := by simpa using (show ¬ (ts.length : Int) = 1 by omega)
      have hA2 : isNameB s = false := by rw [hA]; rw [show (ts.length == 1) = false by simpa using hl]; rfl
      rw [hA2]; clear hA hA2 hl
      go_enter Tryz.func144, Tryz.ntmps144
      go_wp2_with fail
      refine (scan_all s HS.out _).mono ?_
      rintro e w1 ⟨v, rfl, hown, hb1⟩
      rw [HR.out] at hown ⊢
      obtain ⟨ad, cap, rfl⟩ := own_form hown
      clear hown
      go_wp2
      go_ret
      exact ⟨rfl, hb1⟩
  · have her2 : (er == 0) = false := by simpa using her
    have hA2 : isNameB s = false := by rw [hA, her2]; rfl
    rw [hA2]; clear hA hA2 her
    go_enter Tryz.func144, Tryz.ntmps144
    go_wp2_with fail
    refine (scan_all s HS.out _).mono ?_
    rintro e w1 ⟨v, rfl, hown, hb1⟩
    rw [HR.out] at hown ⊢
    obtain ⟨ad, cap, rfl⟩ := own_form hown
    clear hown
    go_wp2
    go_ret
    exact ⟨rfl, hb1⟩

set_option maxHeartbeats 400000 in
theorem other_is (b : Nat) (u : MVar) (nm : ByteArray) (w : World) (hc : w.cell? ⟨b, 0, none⟩ = some (.string nm)) :
    Calls Tryz.prog 146 #[.agg #[.string u.name, .int .i64 u.lo, .int .i64 u.hi], .pointer (some ⟨b, 0, none⟩)] w fun e w' => e = .returned (.bool (u.name.toList == nm.toList)) ∧ Below w.heap.size w w' := by
  have hb : b < w.heap.size := World.block_lt_of_cell? w _ hc
  go_enter Tryz.func146, Tryz.ntmps146
  go_wp2
  go_ret
  exact ⟨rfl, below_alloc _ _⟩

def twiceB (l : List MVar) (nm : ByteArray) : Bool := l.any fun u => u.name.toList == nm.toList
theorem twice_hit (l : List MVar) (nm : ByteArray) (m : Nat) (t : MVar) (ht : l[m]? = some t) (h : (t.name.toList == nm.toList) = true) : twiceB l nm = true := by
  unfold twiceB; exact List.any_eq_true.2 ⟨t, List.mem_of_getElem? ht, h⟩
theorem twice_miss (l : List MVar) (nm : ByteArray) (m : Nat) (t : MVar) (ht : l[m]? = some t) (h0 : twiceB (l.take m) nm = false) (h : (t.name.toList == nm.toList) = false) : twiceB (l.take (m + 1)) nm = false := by
  unfold twiceB at *; rw [List.take_add_one, ht, List.any_append, h0]; simp [h]

set_option maxHeartbeats 800000 in
set_option maxRecDepth 100000 in
theorem index_vars (l : List MVar) (v : Value) (b : Nat) (nm : ByteArray) (w : World) (hv : VArg w v l) (hc : w.cell? ⟨b, 0, none⟩ = some (.string nm)) :
    Calls Tryz.prog 212 #[v, .func (.func 146) #[] #[.pointer (some ⟨b, 0, none⟩)]] w fun e w' => ∃ z : Int, e = .returned (.int .i64 z) ∧ decide (0 ≤ z) = twiceB l nm ∧ Below w.heap.size w w' := by
  obtain ⟨a, c, rfl, hm, hr⟩ := hv
  have HV : Hid (∀ (i : Nat) (t : MVar), l[i]? = some t → t.name.size ≤ maxLen ∧ ∃ b off, a = some ⟨b, off, none⟩ ∧ b < w.heap.size ∧
    w.cell? ⟨b, off + i * 3, none⟩ = some (.string t.name) ∧ w.cell? ⟨b, off + i * 3 + 1, none⟩ = some (.int .i64 t.lo) ∧ w.cell? ⟨b, off + i * 3 + 2, none⟩ = some (.int .i64 t.hi)) := hr
  have hbs : b < w.heap.size := World.block_lt_of_cell? w _ hc
  have HC : Hid (w.cell? ⟨b, 0, none⟩ = some (.string nm)) := hc
  obtain ⟨tw, htw⟩ : ∃ tw, twiceB l nm = tw := ⟨_, rfl⟩
  rw [htw]
  have HTW : Hid (twiceB l nm = tw) := htw
  clear hr hc htw
  unfold maxLen at hm
  obtain ⟨hm1, hm⟩ := hm
  go_enter Tryz.func212, Tryz.ntmps212
  go_wp2_with fail
  go_loopw [8] (fun i wr => ∃ m : Nat, m ≤ l.length ∧ i = .int .i64 m ∧ Hid (twiceB (l.take m) nm = false) ∧ Below w.heap.size w wr) (fun i _ => l.length - (intOf i).toNat)
  case atStart => exact ⟨0, by omega, rfl, rfl, Below.refl _ _⟩
  case round =>
    obtain ⟨m, hml, rfl, hno, hbw⟩ := hrel
    by_cases hlt : m < l.length
    · obtain ⟨t, ht⟩ : ∃ t, l[m]? = some t := ⟨l[m], by simp [hlt]⟩
      obtain ⟨_, b2, off, ha, hlt2, c0, c1, c2⟩ := HV.out m t ht
      have hc0 := (hbw.cell (p := ⟨b2, off + m * 3, none⟩) hlt2).trans c0
      have hc1 := (hbw.cell (p := ⟨b2, off + m * 3 + 1, none⟩) hlt2).trans c1
      have hc2 := (hbw.cell (p := ⟨b2, off + m * 3 + 2, none⟩) hlt2).trans c2
      have hcb := (hbw.cell (p := ⟨b, 0, none⟩) hbs).trans HC.out
      have HT : Hid (l[m]? = some t) := ht
      subst ha
      clear c0 c1 c2 ht
      cases hq : (t.name.toList == nm.toList)
      · have HNO : Hid (twiceB (l.take (m + 1)) nm = false) := twice_miss l nm m t HT.out hno.out hq
        go_wp2_with fail
        refine (other_is b t nm _ hcb).mono ?_
        rintro e w1 ⟨rfl, hb1⟩
        rw [hq]
        clear hq
        go_wp2
        go_roundw
        case rel => exact ⟨m + 1, by omega, by go_num, HNO, hbw.trans (hb1.mono hbw.size)⟩
        case measure => simp [intOf]; omega
      · have HY : Hid (tw = true) := by rw [← HTW.out]; exact twice_hit l nm m t HT.out hq
        go_wp2_with fail
        refine (other_is b t nm _ hcb).mono ?_
        rintro e w1 ⟨rfl, hb1⟩
        rw [hq]
        clear hq
        go_wp2
        go_ret
        exact ⟨_, rfl, by rw [HY.out]; simp, hbw.trans (hb1.mono hbw.size)⟩
    · have HN : Hid (tw = false) := by
        have hmn : m = l.length := by omega
        have := hno.out; rw [hmn, List.take_length, HTW.out] at this; exact this
      go_wp2
      go_ret
      exact ⟨_, rfl, by rw [HN.out]; rfl, hbw⟩

set_option maxHeartbeats 400000 in
theorem contains_vars (l : List MVar) (v : Value) (b : Nat) (nm : ByteArray) (w : World) (hv : VArg w v l) (hc : w.cell? ⟨b, 0, none⟩ = some (.string nm)) :
    Calls Tryz.prog 145 #[v, .func (.func 146) #[] #[.pointer (some ⟨b, 0, none⟩)]] w fun e w' => e = .returned (.bool (twiceB l nm)) ∧ Below w.heap.size w w' := by
  go_enter Tryz.func145, Tryz.ntmps145
  go_wp2_with fail
  refine (index_vars l v b nm _ hv hc).mono ?_
  rintro e w1 ⟨z, rfl, hz, hb1⟩
  have HZ : Hid (decide (0 ≤ z) = twiceB l nm) := hz
  clear hz
  go_wp2
  go_ret
  exact ⟨ret_bool HZ.out, hb1⟩

theorem VArg.take {w : World} {a : Option Addr} {n c : Nat} {vs : List MVar} (h : VArg w (.slice a n c) vs) (k : Nat) (hk : k ≤ vs.length) : VArg w (.slice a k c) (vs.take k) := by
  obtain ⟨a', c', hv, hm, hr⟩ := h
  cases hv
  refine ⟨a, c, by rw [List.length_take, Nat.min_eq_left hk], ⟨by rw [List.length_take]; omega, hm.2⟩, fun i t ht => ?_⟩
  rw [List.getElem?_take] at ht
  split at ht
  · exact hr i t ht
  · cases ht

set_option maxHeartbeats 1600000 in
set_option maxRecDepth 100000 in
theorem var_check (vs : List MVar) (v : Value) (k : Nat) (t : MVar) (w : World) (hv : VArg w v vs) (ht : vs[k]? = some t) :
    Calls Tryz.prog 84 #[v, .int .i64 k] w fun e w' => e = .returned (.int .i64 (varE (vs.take k) t)) ∧ Below w.heap.size w w' := by
  have hv0 := hv
  obtain ⟨a, c, rfl, hm, hr⟩ := hv
  have hkl : k < vs.length := (List.getElem?_eq_some_iff.1 ht).1
  have HTAKE : Hid (VArg w (.slice a k c) (vs.take k)) := VArg.take hv0 k (by omega)
  obtain ⟨hts, b, off, rfl, hlt, c0, c1, c2⟩ := hr k t ht
  have HTS : Hid (t.name.size ≤ maxLen) := hts
  obtain ⟨R, hR⟩ : ∃ R, varE (vs.take k) t = R := ⟨_, rfl⟩
  rw [hR]
  have hE : R = (if isNameB t.name then (if twiceB (vs.take k) t.name then 6 else if inB t.lo 50 && (inB t.hi 50 && !decide (t.hi < t.lo)) then (if 6 < t.hi - t.lo + 1 then 2 else 0) else 3) else 1) := by rw [← hR]; rfl
  clear hr hv0 hts ht hR
  unfold maxLen at hm
  obtain ⟨hm1, hm⟩ := hm
  cases hn : isNameB t.name
  · have HE : Hid (R = 1) := by rw [hE, hn]; rfl
    have HN : Hid (isNameB t.name = false) := hn
    clear hn hE
    go_enter Tryz.func84, Tryz.ntmps84
    go_wp2_with fail
    refine (name_is _ HTS.out _).mono ?_
    rintro e w1 ⟨rfl, hb1⟩
    rw [HN.out]
    have hB1 : Below w.heap.size w w1 := (below_alloc _ _).trans (hb1.mono (by simp))
    have d0 : w1.cell? ⟨w.heap.size, 0, none⟩ = some (.string t.name) := (hb1.cell (by simp)).trans (by simp)
    have d1 : w1.cell? ⟨w.heap.size, 1, none⟩ = some (.int .i64 t.lo) := (hb1.cell (by simp)).trans (by simp)
    have d2 : w1.cell? ⟨w.heap.size, 2, none⟩ = some (.int .i64 t.hi) := (hb1.cell (by simp)).trans (by simp)
    have hs1 : w.heap.size + 1 ≤ w1.heap.size := by simpa using hb1.size
    clear hb1
    go_wp2
    go_ret
    exact ⟨ret_int HE.out.symm, hB1⟩
  · have HN : Hid (isNameB t.name = true) := hn
    cases htw : twiceB (vs.take k) t.name
    · have HTW : Hid (twiceB (vs.take k) t.name = false) := htw
      cases hlo : inB t.lo 50
      · have HE : Hid (R = 3) := by rw [hE, hn, htw, hlo]; rfl
        have HLO : Hid (inB t.lo 50 = false) := hlo
        clear hn htw hlo hE
        go_enter Tryz.func84, Tryz.ntmps84
        go_wp2_with fail
        refine (name_is _ HTS.out _).mono ?_
        rintro e w1 ⟨rfl, hb1⟩
        rw [HN.out]
        have hB1 : Below w.heap.size w w1 := (below_alloc _ _).trans (hb1.mono (by simp))
        have d0 : w1.cell? ⟨w.heap.size, 0, none⟩ = some (.string t.name) := (hb1.cell (by simp)).trans (by simp)
        have d1 : w1.cell? ⟨w.heap.size, 1, none⟩ = some (.int .i64 t.lo) := (hb1.cell (by simp)).trans (by simp)
        have d2 : w1.cell? ⟨w.heap.size, 2, none⟩ = some (.int .i64 t.hi) := (hb1.cell (by simp)).trans (by simp)
        have hs1 : w.heap.size + 1 ≤ w1.heap.size := by simpa using hb1.size
        clear hb1
        go_wp2_with fail
        refine (contains_vars (vs.take k) _ w.heap.size t.name _ (VArg.below hB1 HTAKE.out) d0).mono ?_
        rintro e w2 ⟨rfl, hb2⟩
        rw [HTW.out]
        have hB2 : Below w.heap.size w w2 := hB1.trans (hb2.mono (by omega))
        have e1 : w2.cell? ⟨w.heap.size, 1, none⟩ = some (.int .i64 t.lo) := (hb2.cell (p := ⟨w.heap.size, 1, none⟩) (by simp only; omega)).trans d1
        have e2 : w2.cell? ⟨w.heap.size, 2, none⟩ = some (.int .i64 t.hi) := (hb2.cell (p := ⟨w.heap.size, 2, none⟩) (by simp only; omega)).trans d2
        clear hb2 d0 d1 d2
        go_wp2_with fail
        refine (within_any _ 50 (by omega) (by omega) _).mono ?_
        rintro e w2 ⟨rfl, rfl⟩
        rw [HLO.out]
        go_wp2
        go_ret
        exact ⟨ret_int HE.out.symm, hB2⟩
      · have HLO : Hid (inB t.lo 50 = true) := hlo
        have hl1 : -50 ≤ t.lo ∧ t.lo ≤ 50 := by simpa [inB] using hlo
        cases hhi : inB t.hi 50
        · have HE : Hid (R = 3) := by rw [hE, hn, htw, hlo, hhi]; rfl
          have HHI : Hid (inB t.hi 50 = false) := hhi
          clear hn htw hlo hhi hE
          go_enter Tryz.func84, Tryz.ntmps84
          go_wp2_with fail
          refine (name_is _ HTS.out _).mono ?_
          rintro e w1 ⟨rfl, hb1⟩
          rw [HN.out]
          have hB1 : Below w.heap.size w w1 := (below_alloc _ _).trans (hb1.mono (by simp))
          have d0 : w1.cell? ⟨w.heap.size, 0, none⟩ = some (.string t.name) := (hb1.cell (by simp)).trans (by simp)
          have d1 : w1.cell? ⟨w.heap.size, 1, none⟩ = some (.int .i64 t.lo) := (hb1.cell (by simp)).trans (by simp)
          have d2 : w1.cell? ⟨w.heap.size, 2, none⟩ = some (.int .i64 t.hi) := (hb1.cell (by simp)).trans (by simp)
          have hs1 : w.heap.size + 1 ≤ w1.heap.size := by simpa using hb1.size
          clear hb1
          go_wp2_with fail
          refine (contains_vars (vs.take k) _ w.heap.size t.name _ (VArg.below hB1 HTAKE.out) d0).mono ?_
          rintro e w2 ⟨rfl, hb2⟩
          rw [HTW.out]
          have hB2 : Below w.heap.size w w2 := hB1.trans (hb2.mono (by omega))
          have e1 : w2.cell? ⟨w.heap.size, 1, none⟩ = some (.int .i64 t.lo) := (hb2.cell (p := ⟨w.heap.size, 1, none⟩) (by simp only; omega)).trans d1
          have e2 : w2.cell? ⟨w.heap.size, 2, none⟩ = some (.int .i64 t.hi) := (hb2.cell (p := ⟨w.heap.size, 2, none⟩) (by simp only; omega)).trans d2
          clear hb2 d0 d1 d2
          go_wp2_with fail
          refine (within_any _ 50 (by omega) (by omega) _).mono ?_
          rintro e w2 ⟨rfl, rfl⟩
          rw [HLO.out]
          go_wp2_with fail
          refine (within_any _ 50 (by omega) (by omega) _).mono ?_
          rintro e w2 ⟨rfl, rfl⟩
          rw [HHI.out]
          go_wp2
          go_ret
          exact ⟨ret_int HE.out.symm, hB2⟩
        · have HHI : Hid (inB t.hi 50 = true) := hhi
          have hh1 : -50 ≤ t.hi ∧ t.hi ≤ 50 := by simpa [inB] using hhi
          by_cases hlh : t.hi < t.lo
          · have HE : Hid (R = 3) := by rw [hE, hn, htw, hlo, hhi, decide_eq_true hlh]; rfl
            clear hn htw hlo hhi hE
            go_enter Tryz.func84, Tryz.ntmps84
            go_wp2_with fail
            refine (name_is _ HTS.out _).mono ?_
            rintro e w1 ⟨rfl, hb1⟩
            rw [HN.out]
            have hB1 : Below w.heap.size w w1 := (below_alloc _ _).trans (hb1.mono (by simp))
            have d0 : w1.cell? ⟨w.heap.size, 0, none⟩ = some (.string t.name) := (hb1.cell (by simp)).trans (by simp)
            have d1 : w1.cell? ⟨w.heap.size, 1, none⟩ = some (.int .i64 t.lo) := (hb1.cell (by simp)).trans (by simp)
            have d2 : w1.cell? ⟨w.heap.size, 2, none⟩ = some (.int .i64 t.hi) := (hb1.cell (by simp)).trans (by simp)
            have hs1 : w.heap.size + 1 ≤ w1.heap.size := by simpa using hb1.size
            clear hb1
            go_wp2_with fail
            refine (contains_vars (vs.take k) _ w.heap.size t.name _ (VArg.below hB1 HTAKE.out) d0).mono ?_
            rintro e w2 ⟨rfl, hb2⟩
            rw [HTW.out]
            have hB2 : Below w.heap.size w w2 := hB1.trans (hb2.mono (by omega))
            have e1 : w2.cell? ⟨w.heap.size, 1, none⟩ = some (.int .i64 t.lo) := (hb2.cell (p := ⟨w.heap.size, 1, none⟩) (by simp only; omega)).trans d1
            have e2 : w2.cell? ⟨w.heap.size, 2, none⟩ = some (.int .i64 t.hi) := (hb2.cell (p := ⟨w.heap.size, 2, none⟩) (by simp only; omega)).trans d2
            clear hb2 d0 d1 d2
            go_wp2_with fail
            refine (within_any _ 50 (by omega) (by omega) _).mono ?_
            rintro e w2 ⟨rfl, rfl⟩
            rw [HLO.out]
            go_wp2_with fail
            refine (within_any _ 50 (by omega) (by omega) _).mono ?_
            rintro e w2 ⟨rfl, rfl⟩
            rw [HHI.out]
            go_wp2
            go_ret
            exact ⟨ret_int HE.out.symm, hB2⟩
          · by_cases h6 : 6 < t.hi - t.lo + 1
            · have HE : Hid (R = 2) := by rw [hE, hn, htw, hlo, hhi, decide_eq_false hlh, if_pos h6]; rfl
              clear hn htw hlo hhi hE
              go_enter Tryz.func84, Tryz.ntmps84
              go_wp2_with fail
              refine (name_is _ HTS.out _).mono ?_
              rintro e w1 ⟨rfl, hb1⟩
              rw [HN.out]
              have hB1 : Below w.heap.size w w1 := (below_alloc _ _).trans (hb1.mono (by simp))
              have d0 : w1.cell? ⟨w.heap.size, 0, none⟩ = some (.string t.name) := (hb1.cell (by simp)).trans (by simp)
              have d1 : w1.cell? ⟨w.heap.size, 1, none⟩ = some (.int .i64 t.lo) := (hb1.cell (by simp)).trans (by simp)
              have d2 : w1.cell? ⟨w.heap.size, 2, none⟩ = some (.int .i64 t.hi) := (hb1.cell (by simp)).trans (by simp)
              have hs1 : w.heap.size + 1 ≤ w1.heap.size := by simpa using hb1.size
              clear hb1
              go_wp2_with fail
              refine (contains_vars (vs.take k) _ w.heap.size t.name _ (VArg.below hB1 HTAKE.out) d0).mono ?_
              rintro e w2 ⟨rfl, hb2⟩
              rw [HTW.out]
              have hB2 : Below w.heap.size w w2 := hB1.trans (hb2.mono (by omega))
              have e1 : w2.cell? ⟨w.heap.size, 1, none⟩ = some (.int .i64 t.lo) := (hb2.cell (p := ⟨w.heap.size, 1, none⟩) (by simp only; omega)).trans d1
              have e2 : w2.cell? ⟨w.heap.size, 2, none⟩ = some (.int .i64 t.hi) := (hb2.cell (p := ⟨w.heap.size, 2, none⟩) (by simp only; omega)).trans d2
              clear hb2 d0 d1 d2
              go_wp2_with fail
              refine (within_any _ 50 (by omega) (by omega) _).mono ?_
              rintro e w2 ⟨rfl, rfl⟩
              rw [HLO.out]
              go_wp2_with fail
              refine (within_any _ 50 (by omega) (by omega) _).mono ?_
              rintro e w2 ⟨rfl, rfl⟩
              rw [HHI.out]
              go_wp2
              go_ret
              exact ⟨ret_int HE.out.symm, hB2⟩
            · have HE : Hid (R = 0) := by rw [hE, hn, htw, hlo, hhi, decide_eq_false hlh, if_neg h6]; rfl
              clear hn htw hlo hhi hE
              go_enter Tryz.func84, Tryz.ntmps84
              go_wp2_with fail
              refine (name_is _ HTS.out _).mono ?_
              rintro e w1 ⟨rfl, hb1⟩
              rw [HN.out]
              have hB1 : Below w.heap.size w w1 := (below_alloc _ _).trans (hb1.mono (by simp))
              have d0 : w1.cell? ⟨w.heap.size, 0, none⟩ = some (.string t.name) := (hb1.cell (by simp)).trans (by simp)
              have d1 : w1.cell? ⟨w.heap.size, 1, none⟩ = some (.int .i64 t.lo) := (hb1.cell (by simp)).trans (by simp)
              have d2 : w1.cell? ⟨w.heap.size, 2, none⟩ = some (.int .i64 t.hi) := (hb1.cell (by simp)).trans (by simp)
              have hs1 : w.heap.size + 1 ≤ w1.heap.size := by simpa using hb1.size
              clear hb1
              go_wp2_with fail
              refine (contains_vars (vs.take k) _ w.heap.size t.name _ (VArg.below hB1 HTAKE.out) d0).mono ?_
              rintro e w2 ⟨rfl, hb2⟩
              rw [HTW.out]
              have hB2 : Below w.heap.size w w2 := hB1.trans (hb2.mono (by omega))
              have e1 : w2.cell? ⟨w.heap.size, 1, none⟩ = some (.int .i64 t.lo) := (hb2.cell (p := ⟨w.heap.size, 1, none⟩) (by simp only; omega)).trans d1
              have e2 : w2.cell? ⟨w.heap.size, 2, none⟩ = some (.int .i64 t.hi) := (hb2.cell (p := ⟨w.heap.size, 2, none⟩) (by simp only; omega)).trans d2
              clear hb2 d0 d1 d2
              go_wp2_with fail
              refine (within_any _ 50 (by omega) (by omega) _).mono ?_
              rintro e w2 ⟨rfl, rfl⟩
              rw [HLO.out]
              go_wp2_with fail
              refine (within_any _ 50 (by omega) (by omega) _).mono ?_
              rintro e w2 ⟨rfl, rfl⟩
              rw [HHI.out]
              go_wp2
              go_ret
              exact ⟨ret_int HE.out.symm, hB2⟩
    · have HE : Hid (R = 6) := by rw [hE, hn, htw]; rfl
      have HTW : Hid (twiceB (vs.take k) t.name = true) := htw
      clear hn htw hE
      go_enter Tryz.func84, Tryz.ntmps84
      go_wp2_with fail
      refine (name_is _ HTS.out _).mono ?_
      rintro e w1 ⟨rfl, hb1⟩
      rw [HN.out]
      have hB1 : Below w.heap.size w w1 := (below_alloc _ _).trans (hb1.mono (by simp))
      have d0 : w1.cell? ⟨w.heap.size, 0, none⟩ = some (.string t.name) := (hb1.cell (by simp)).trans (by simp)
      have d1 : w1.cell? ⟨w.heap.size, 1, none⟩ = some (.int .i64 t.lo) := (hb1.cell (by simp)).trans (by simp)
      have d2 : w1.cell? ⟨w.heap.size, 2, none⟩ = some (.int .i64 t.hi) := (hb1.cell (by simp)).trans (by simp)
      have hs1 : w.heap.size + 1 ≤ w1.heap.size := by simpa using hb1.size
      clear hb1
      go_wp2_with fail
      refine (contains_vars (vs.take k) _ w.heap.size t.name _ (VArg.below hB1 HTAKE.out) d0).mono ?_
      rintro e w2 ⟨rfl, hb2⟩
      rw [HTW.out]
      have hB2 : Below w.heap.size w w2 := hB1.trans (hb2.mono (by omega))
      have e1 : w2.cell? ⟨w.heap.size, 1, none⟩ = some (.int .i64 t.lo) := (hb2.cell (p := ⟨w.heap.size, 1, none⟩) (by simp only; omega)).trans d1
      have e2 : w2.cell? ⟨w.heap.size, 2, none⟩ = some (.int .i64 t.hi) := (hb2.cell (p := ⟨w.heap.size, 2, none⟩) (by simp only; omega)).trans d2
      clear hb2 d0 d1 d2
      go_wp2
      go_ret
      exact ⟨ret_int HE.out.symm, hB2⟩
end Go.Proofs.YtdjbejlbmaiocagGreatDoor
/-
  WALKS: package model: constraints, their parts.
-/
namespace Go.Proofs.YtdjbejlbmaiocagGreatDoor
open Go.RowKit

theorem all_hit {α : Type} (p : α → Bool) (l : List α) (m : Nat) (t : α) (ht : l[m]? = some t) (h : p t = false) : l.all p = false := by
  cases ha : l.all p
  · rfl
  · rw [List.all_eq_true.1 ha t (List.mem_of_getElem? ht)] at h; cases h
theorem all_next {α : Type} (p : α → Bool) (l : List α) (m : Nat) (t : α) (ht : l[m]? = some t) (h0 : (l.take m).all p = true) (h : p t = true) : (l.take (m + 1)).all p = true := by
  rw [List.take_add_one, ht, List.all_append, h0]; simp [h]
theorem all_end {α : Type} (p : α → Bool) (l : List α) (m : Nat) (h : ¬ m < l.length) (h0 : (l.take m).all p = true) : l.all p = true := by
  rwa [List.take_of_length_le (by omega)] at h0

set_option maxHeartbeats 400000 in
theorem isvar_any (v n : Int) (w : World) :
    Calls Tryz.prog 152 #[.int .i64 v, .int .i64 n] w fun e w' => e = .returned (.bool (isVarB v n)) ∧ w' = w := by
  unfold isVarB
  go_enter Tryz.func152, Tryz.ntmps152
  go_wp2
  · go_ret; exact ⟨ret_bool (by simp [*]), rfl⟩
  · go_ret; exact ⟨ret_bool (by rw [decide_eq_false (p := 0 ≤ v) (by omega)]; rfl), rfl⟩

set_option maxHeartbeats 400000 in
theorem isconst_any (n : Int) (w : World) :
    Calls Tryz.prog 215 #[.int .i64 n] w fun e w' => e = .returned (.bool (isConstB n)) ∧ w' = w := by
  unfold isConstB
  go_enter Tryz.func215, Tryz.ntmps215
  go_wp2_with fail
  refine (within_any _ 1000 (by omega) (by omega) _).mono ?_
  rintro e w ⟨rfl, rfl⟩
  go_wp2
  go_ret
  exact ⟨rfl, rfl⟩

set_option maxHeartbeats 400000 in
set_option maxRecDepth 100000 in
theorem consts_any (l : List Int) (v : Value) (w : World) (hv : IArg w v l) :
    Calls Tryz.prog 214 #[v] w fun e w' => e = .returned (.bool (l.all isConstB)) ∧ w' = w := by
  obtain ⟨a, c, rfl, hm, hr⟩ := hv
  have HV : Hid (∀ (i : Nat) (z : Int), l[i]? = some z → ∃ b off, a = some ⟨b, off, none⟩ ∧ b < w.heap.size ∧ w.cell? ⟨b, off + i, none⟩ = some (.int .i64 z)) := hr
  obtain ⟨R, hR⟩ : ∃ R, l.all isConstB = R := ⟨_, rfl⟩
  rw [hR]
  have HR : Hid (l.all isConstB = R) := hR
  unfold maxLen at hm
  obtain ⟨hm1, hm⟩ := hm
  clear hr hR
  go_enter Tryz.func214, Tryz.ntmps214
  go_wp2_with fail
  go_loop [7] (fun i => ∃ m : Nat, m ≤ l.length ∧ i = .int .i64 m ∧ Hid ((l.take m).all isConstB = true)) (fun i => l.length - (intOf i).toNat)
  case atStart => exact ⟨0, by omega, rfl, rfl⟩
  case round =>
    obtain ⟨m, hml, rfl, hall⟩ := hrel
    by_cases hlt : m < l.length
    · obtain ⟨z, hz⟩ : ∃ z, l[m]? = some z := ⟨l[m], by simp [hlt]⟩
      obtain ⟨b, off, ha, hb, hc⟩ := HV.out m z hz
      have HZ : Hid (l[m]? = some z) := hz
      subst ha
      clear hz
      cases hq : isConstB z
      · have HN : Hid (R = false) := by rw [← HR.out]; exact all_hit _ l m z HZ.out hq
        go_wp2_with fail
        refine (isconst_any _ _).mono ?_
        rintro e w ⟨rfl, rfl⟩
        rw [hq]
        clear hq
        go_wp2
        go_ret
        exact ⟨ret_bool HN.out.symm, rfl⟩
      · have HN : Hid ((l.take (m + 1)).all isConstB = true) := all_next _ l m z HZ.out hall.out hq
        go_wp2_with fail
        refine (isconst_any _ _).mono ?_
        rintro e w ⟨rfl, rfl⟩
        rw [hq]
        clear hq
        go_wp2
        go_round
        case rel => exact ⟨m + 1, by omega, by go_num, HN⟩
        case measure => simp [intOf]; omega
    · have HN : Hid (R = true) := by rw [← HR.out]; exact all_end _ l m hlt hall.out
      go_wp2
      go_ret
      exact ⟨ret_bool HN.out.symm, rfl⟩

set_option maxHeartbeats 400000 in
set_option maxRecDepth 100000 in
theorem long_any (l : List (List Int)) (v : Value) (n : Nat) (w : World) (hv : RArg w v l) :
    Calls Tryz.prog 213 #[v, .int .i64 n] w fun e w' => e = .returned (.bool (l.all fun r => decide (r.length = n))) ∧ w' = w := by
  obtain ⟨a, c, rfl, hm, hr⟩ := hv
  have HV : Hid (∀ (i : Nat) (r : List Int), l[i]? = some r → ∃ b off x, a = some ⟨b, off, none⟩ ∧ b < w.heap.size ∧ w.cell? ⟨b, off + i, none⟩ = some x ∧ IArg w x r) := hr
  obtain ⟨R, hR⟩ : ∃ R, (l.all fun r => decide (r.length = n)) = R := ⟨_, rfl⟩
  rw [hR]
  have HR : Hid ((l.all fun r => decide (r.length = n)) = R) := hR
  unfold maxLen at hm
  obtain ⟨hm1, hm⟩ := hm
  clear hr hR
  go_enter Tryz.func213, Tryz.ntmps213
  go_wp2_with fail
  go_loop [9] (fun i => ∃ m : Nat, m ≤ l.length ∧ i = .int .i64 m ∧ Hid ((l.take m).all (fun r => decide (r.length = n)) = true)) (fun i => l.length - (intOf i).toNat)
  case atStart => exact ⟨0, by omega, rfl, rfl⟩
  case round =>
    obtain ⟨m, hml, rfl, hall⟩ := hrel
    by_cases hlt : m < l.length
    · obtain ⟨z, hz⟩ : ∃ z, l[m]? = some z := ⟨l[m], by simp [hlt]⟩
      obtain ⟨b, off, x, ha, hb, hc, hx⟩ := HV.out m z hz
      obtain ⟨a2, c2, rfl, hm2, _⟩ := hx
      have HZ : Hid (l[m]? = some z) := hz
      subst ha
      clear hz hm2
      by_cases hq : z.length = n
      · have HN : Hid ((l.take (m + 1)).all (fun r => decide (r.length = n)) = true) := all_next _ l m z HZ.out hall.out (decide_eq_true hq)
        have hq2 : ((z.length : Int) != (n : Int)) = false := by simp [hq]
        clear hq
        go_wp2
        go_round
        case rel => exact ⟨m + 1, by omega, by go_num, HN⟩
        case measure => simp [intOf]; omega
      · have HN : Hid (R = false) := by rw [← HR.out]; exact all_hit _ l m z HZ.out (decide_eq_false hq)
        have hq2 : ((z.length : Int) != (n : Int)) = true := by simp; omega
        clear hq
        go_wp2
        go_ret
        exact ⟨ret_bool HN.out.symm, rfl⟩
    · have HN : Hid (R = true) := by rw [← HR.out]; exact all_end _ l m hlt hall.out
      go_wp2
      go_ret
      exact ⟨ret_bool HN.out.symm, rfl⟩

def opB (l : MLit) : Bool := decide (1 ≤ l.op) && decide (l.op ≤ 4)
set_option maxHeartbeats 800000 in
set_option maxRecDepth 100000 in
theorem lits_any (l : List MLit) (v : Value) (w : World) (hv : LArg w v l) :
    Calls Tryz.prog 151 #[v] w fun e w' => e = .returned (.int .i64 (litsE l)) ∧ Below w.heap.size w w' := by
  obtain ⟨a, c, rfl, hm, hr⟩ := hv
  have HV : Hid (∀ (i : Nat) (t : MLit), l[i]? = some t → ∃ b off, a = some ⟨b, off, none⟩ ∧ b < w.heap.size ∧
    w.cell? ⟨b, off + i * 3, none⟩ = some (.int .i64 t.var) ∧ w.cell? ⟨b, off + i * 3 + 1, none⟩ = some (.int .i64 t.op) ∧ w.cell? ⟨b, off + i * 3 + 2, none⟩ = some (.int .i64 t.n)) := hr
  obtain ⟨R, hR⟩ : ∃ R, litsE l = R := ⟨_, rfl⟩
  rw [hR]
  have hE : R = (if l.all opB then (if l.all (fun t => isConstB t.n) then 0 else 3) else 7) := by rw [← hR]; rfl
  have HE : Hid (R = (if l.all opB then (if l.all (fun t => isConstB t.n) then 0 else 3) else 7)) := hE
  unfold maxLen at hm
  obtain ⟨hm1, hm⟩ := hm
  clear hr hR hE
  go_enter Tryz.func151, Tryz.ntmps151
  go_wp2_with fail
  go_loopw [9] (fun i wr => ∃ m : Nat, m ≤ l.length ∧ i = .int .i64 m ∧ Hid ((l.take m).all opB = true) ∧ Below w.heap.size w wr) (fun i _ => l.length - (intOf i).toNat)
  case atStart => exact ⟨0, by omega, rfl, rfl, Below.refl _ _⟩
  case round =>
    obtain ⟨m, hml, rfl, hall, hbw⟩ := hrel
    by_cases hlt : m < l.length
    · obtain ⟨t, hz⟩ : ∃ z, l[m]? = some z := ⟨l[m], by simp [hlt]⟩
      obtain ⟨b, off, ha, hb, c0, c1, c2⟩ := HV.out m t hz
      have HZ : Hid (l[m]? = some t) := hz
      have hc0 := (hbw.cell (p := ⟨b, off + m * 3, none⟩) hb).trans c0
      have hc1 := (hbw.cell (p := ⟨b, off + m * 3 + 1, none⟩) hb).trans c1
      have hc2 := (hbw.cell (p := ⟨b, off + m * 3 + 2, none⟩) hb).trans c2
      have hsz := hbw.size
      subst ha
      clear hz c0 c1 c2
      by_cases h1 : 1 ≤ t.op
      · by_cases h4 : t.op ≤ 4
        · have HN : Hid ((l.take (m + 1)).all opB = true) := all_next _ l m t HZ.out hall.out (by unfold opB; rw [decide_eq_true h1, decide_eq_true h4]; rfl)
          go_wp2
          go_roundw
          case rel => exact ⟨m + 1, by omega, by go_num, HN, hbw.alloc hsz _⟩
          case measure => simp [intOf]; omega
        · have HN : Hid (R = 7) := by rw [HE.out, all_hit opB l m t HZ.out (by unfold opB; rw [decide_eq_true h1, decide_eq_false h4]; rfl)]; rfl
          go_wp2
          go_ret
          exact ⟨ret_int HN.out.symm, hbw.alloc hsz _⟩
      · have HN : Hid (R = 7) := by rw [HE.out, all_hit opB l m t HZ.out (by unfold opB; rw [decide_eq_false h1]; rfl)]; rfl
        go_wp2
        go_ret
        exact ⟨ret_int HN.out.symm, hbw.alloc hsz _⟩
    · have HOP : Hid (l.all opB = true) := all_end _ l m hlt hall.out
      have hsz := hbw.size
      obtain ⟨wo, rfl⟩ : ∃ wo : World, wo = wr := ⟨_, rfl⟩
      go_wp2
      go_loopw [24] (fun i wr => ∃ m : Nat, m ≤ l.length ∧ i = .int .i64 m ∧ Hid ((l.take m).all (fun t => isConstB t.n) = true) ∧ Below w.heap.size w wr) (fun i _ => l.length - (intOf i).toNat)
      case atStart => exact ⟨0, by omega, rfl, rfl, hbw⟩
      case round =>
        clear hbw hsz hall hml hlt
        obtain ⟨m, hml, rfl, hall, hbw⟩ := hrel
        by_cases hlt : m < l.length
        · obtain ⟨t, hz⟩ : ∃ z, l[m]? = some z := ⟨l[m], by simp [hlt]⟩
          obtain ⟨b, off, ha, hb, c0, c1, c2⟩ := HV.out m t hz
          have HZ : Hid (l[m]? = some t) := hz
          have hc0 := (hbw.cell (p := ⟨b, off + m * 3, none⟩) hb).trans c0
          have hc1 := (hbw.cell (p := ⟨b, off + m * 3 + 1, none⟩) hb).trans c1
          have hc2 := (hbw.cell (p := ⟨b, off + m * 3 + 2, none⟩) hb).trans c2
          have hsz := hbw.size
          subst ha
          clear hz c0 c1 c2
          cases hq : isConstB t.n
          · have HN : Hid (R = 3) := by rw [HE.out, HOP.out, all_hit (fun t : MLit => isConstB t.n) l m t HZ.out hq]; rfl
            go_wp2_with fail
            refine (isconst_any _ _).mono ?_
            rintro e w2 ⟨rfl, hw2⟩
            rw [hq, hw2]
            clear hq hw2
            go_wp2
            go_ret
            exact ⟨ret_int HN.out.symm, hbw.alloc hsz _⟩
          · have HN : Hid ((l.take (m + 1)).all (fun t => isConstB t.n) = true) := all_next _ l m t HZ.out hall.out hq
            go_wp2_with fail
            refine (isconst_any _ _).mono ?_
            rintro e w2 ⟨rfl, hw2⟩
            rw [hq, hw2]
            clear hq hw2
            go_wp2
            go_roundw
            case rel => exact ⟨m + 1, by omega, by go_num, HN, hbw.alloc hsz _⟩
            case measure => simp [intOf]; omega
        · have HN : Hid (R = 0) := by rw [HE.out, HOP.out, all_end _ l m hlt hall.out]; rfl
          go_wp2
          go_ret
          exact ⟨ret_int HN.out.symm, hbw⟩
end Go.Proofs.YtdjbejlbmaiocagGreatDoor
/-
  WALKS: package model: constraints.
-/
namespace Go.Proofs.YtdjbejlbmaiocagGreatDoor
open Go.RowKit

set_option maxHeartbeats 800000 in
set_option maxRecDepth 100000 in
theorem many_any (c : MCon) (vv vc vr vl : Value) (w : World) (hk : KArg w vv vc vr vl c) :
    Calls Tryz.prog 147 #[conV vv vc vr vl c] w fun e w' => e = .returned (.bool (manyB c)) ∧ Below w.heap.size w w' := by
  obtain ⟨⟨a1, c1, rfl, hm1, hr1⟩, ⟨a2, c2, rfl, hm2, hr2⟩, ⟨a3, c3, rfl, hm3, hr3⟩, ⟨a4, c4, rfl, hm4, hr4⟩⟩ := hk
  clear hr1 hr2 hr3 hr4 hm1 hm2 hm3 hm4
  unfold conV manyB
  by_cases h1 : 4 < c.vars.length
  · rw [decide_eq_true h1]
    go_enter Tryz.func147, Tryz.ntmps147
    go_wp2
    go_ret
    exact ⟨ret_bool (by first | (simp; done) | (rw [Bool.eq_iff_iff]; simp; omega)), below_alloc _ _⟩
  · rw [decide_eq_false h1]
    by_cases h2 : 4 < c.lits.length
    · rw [decide_eq_true h2]
      go_enter Tryz.func147, Tryz.ntmps147
      go_wp2
      go_ret
      exact ⟨ret_bool (by first | (simp; done) | (rw [Bool.eq_iff_iff]; simp; omega)), below_alloc _ _⟩
    · rw [decide_eq_false h2]
      by_cases h3 : 8 < c.consts.length
      · rw [decide_eq_true h3]
        go_enter Tryz.func147, Tryz.ntmps147
        go_wp2
        go_ret
        exact ⟨ret_bool (by first | (simp; done) | (rw [Bool.eq_iff_iff]; simp; omega)), below_alloc _ _⟩
      · rw [decide_eq_false h3]
        go_enter Tryz.func147, Tryz.ntmps147
        go_wp2
        go_ret
        exact ⟨ret_bool (by first | (simp; done) | (rw [Bool.eq_iff_iff]; simp; omega)), below_alloc _ _⟩

set_option maxHeartbeats 800000 in
set_option maxRecDepth 100000 in
theorem vars_any (c : MCon) (n : Int) (vv vc vr vl : Value) (w : World) (hk : KArg w vv vc vr vl c) :
    Calls Tryz.prog 149 #[conV vv vc vr vl c, .int .i64 n] w fun e w' => e = .returned (.bool (varsB c n)) ∧ Below w.heap.size w w' := by
  obtain ⟨⟨a1, c1, rfl, hm1, hr1⟩, _, _, ⟨a4, c4, rfl, hm4, hr4⟩⟩ := hk
  have HI : Hid (∀ (i : Nat) (z : Int), c.vars[i]? = some z → ∃ b off, a1 = some ⟨b, off, none⟩ ∧ b < w.heap.size ∧ w.cell? ⟨b, off + i, none⟩ = some (.int .i64 z)) := hr1
  have HL : Hid (∀ (i : Nat) (t : MLit), c.lits[i]? = some t → ∃ b off, a4 = some ⟨b, off, none⟩ ∧ b < w.heap.size ∧
    w.cell? ⟨b, off + i * 3, none⟩ = some (.int .i64 t.var) ∧ w.cell? ⟨b, off + i * 3 + 1, none⟩ = some (.int .i64 t.op) ∧ w.cell? ⟨b, off + i * 3 + 2, none⟩ = some (.int .i64 t.n)) := hr4
  obtain ⟨R, hR⟩ : ∃ R, varsB c n = R := ⟨_, rfl⟩
  rw [hR]
  have HE : Hid (R = (c.vars.all (fun v => isVarB v n) && c.lits.all (fun l => isVarB l.var n))) := by rw [← hR]; rfl
  unfold maxLen at hm1 hm4
  obtain ⟨hm11, hm1⟩ := hm1
  obtain ⟨hm41, hm4⟩ := hm4
  clear hr1 hr4 hR
  unfold conV
  go_enter Tryz.func149, Tryz.ntmps149
  go_wp2_with fail
  obtain ⟨w0, hw0⟩ : ∃ w0 : World, w0 = w.alloc (.cells #[.int .i64 c.kind, .slice a1 c.vars.length c1, vc, .int .i64 c.n, vr, .slice a4 c.lits.length c4] 73) := ⟨_, rfl⟩
  rw [← hw0]
  have hb0 : Below w.heap.size w w0 := by rw [hw0]; exact below_alloc _ _
  have hc5 : w0.cell? ⟨w.heap.size, 5, none⟩ = some (.slice a4 c.lits.length c4) := by rw [hw0]; simp
  have hs0 : w0.heap.size = w.heap.size + 1 := by rw [hw0]; simp
  have HS0 : Hid (w0.heap.size = w.heap.size + 1) := hs0
  clear hw0 hs0
  go_loopw [12] (fun i wr => ∃ m : Nat, m ≤ c.vars.length ∧ i = .int .i64 m ∧ Hid ((c.vars.take m).all (fun v => isVarB v n) = true) ∧ wr = w0) (fun i _ => c.vars.length - (intOf i).toNat)
  case atStart => exact ⟨0, by omega, rfl, rfl, rfl⟩
  case round =>
    obtain ⟨m, hml, rfl, hall, rfl⟩ := hrel
    by_cases hlt : m < c.vars.length
    · obtain ⟨z, hz⟩ : ∃ z, c.vars[m]? = some z := ⟨c.vars[m], by simp [hlt]⟩
      obtain ⟨b, off, ha, hb, hc⟩ := HI.out m z hz
      have hcr := (hb0.cell (p := ⟨b, off + m, none⟩) hb).trans hc
      have HZ : Hid (c.vars[m]? = some z) := hz
      subst ha
      clear hz hc
      cases hq : isVarB z n
      · have HN : Hid (R = false) := by rw [HE.out, all_hit (fun v => isVarB v n) c.vars m z HZ.out hq]; rfl
        go_wp2_with fail
        refine (isvar_any _ _ _).mono ?_
        rintro e w2 ⟨rfl, hw2⟩
        rw [hq, hw2]
        clear hq hw2
        go_wp2
        go_ret
        exact ⟨ret_bool HN.out.symm, hb0⟩
      · have HN : Hid ((c.vars.take (m + 1)).all (fun v => isVarB v n) = true) := all_next _ c.vars m z HZ.out hall.out hq
        go_wp2_with fail
        refine (isvar_any _ _ _).mono ?_
        rintro e w2 ⟨rfl, hw2⟩
        rw [hq, hw2]
        clear hq hw2
        go_wp2
        go_roundw
        case rel => exact ⟨m + 1, by omega, by go_num, HN, by first | rfl | trivial⟩
        case measure => simp [intOf]; omega
    · have HV : Hid (c.vars.all (fun v => isVarB v n) = true) := all_end _ c.vars m hlt hall.out
      obtain ⟨wo, rfl⟩ : ∃ wo : World, wo = wr := ⟨_, rfl⟩
      go_wp2
      clear hml hall hlt
      go_loopw [24] (fun i wr => ∃ m : Nat, m ≤ c.lits.length ∧ i = .int .i64 m ∧ Hid ((c.lits.take m).all (fun l => isVarB l.var n) = true) ∧ Below w.heap.size w wr) (fun i _ => c.lits.length - (intOf i).toNat)
      case atStart => exact ⟨0, by omega, rfl, rfl, hb0⟩
      case round =>
        obtain ⟨m, hml, rfl, hall, hbw⟩ := hrel
        by_cases hlt : m < c.lits.length
        · obtain ⟨t, hz⟩ : ∃ z, c.lits[m]? = some z := ⟨c.lits[m], by simp [hlt]⟩
          obtain ⟨b, off, ha, hb, d0, d1, d2⟩ := HL.out m t hz
          have hd0 := (hbw.cell (p := ⟨b, off + m * 3, none⟩) hb).trans d0
          have hd1 := (hbw.cell (p := ⟨b, off + m * 3 + 1, none⟩) hb).trans d1
          have hd2 := (hbw.cell (p := ⟨b, off + m * 3 + 2, none⟩) hb).trans d2
          have HZ : Hid (c.lits[m]? = some t) := hz
          have hsz := hbw.size
          subst ha
          clear hz d0 d1 d2
          cases hq : isVarB t.var n
          · have HN : Hid (R = false) := by rw [HE.out, HV.out, all_hit (fun l : MLit => isVarB l.var n) c.lits m t HZ.out hq]; rfl
            go_wp2_with fail
            refine (isvar_any _ _ _).mono ?_
            rintro e w2 ⟨rfl, hw2⟩
            rw [hq, hw2]
            clear hq hw2
            go_wp2
            go_ret
            exact ⟨ret_bool HN.out.symm, hbw.alloc hsz _⟩
          · have HN : Hid ((c.lits.take (m + 1)).all (fun l => isVarB l.var n) = true) := all_next _ c.lits m t HZ.out hall.out hq
            go_wp2_with fail
            refine (isvar_any _ _ _).mono ?_
            rintro e w2 ⟨rfl, hw2⟩
            rw [hq, hw2]
            clear hq hw2
            go_wp2
            go_roundw
            case rel => exact ⟨m + 1, by omega, by go_num, HN, hbw.alloc hsz _⟩
            case measure => simp [intOf]; omega
        · have HN : Hid (R = true) := by rw [HE.out, HV.out, all_end _ c.lits m hlt hall.out]; rfl
          go_wp2
          go_ret
          exact ⟨ret_bool HN.out.symm, hbw⟩
end Go.Proofs.YtdjbejlbmaiocagGreatDoor
