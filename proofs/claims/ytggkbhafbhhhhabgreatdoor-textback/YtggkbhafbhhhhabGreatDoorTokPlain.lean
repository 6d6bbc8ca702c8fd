/-
  PLAIN: what the scanner's functions come to, as functions on bytes; no program in it.
-/
namespace Go.Proofs.YtggkbhafbhhhhabGreatDoor

structure Tok where
  kind : Int
  place : Int
  text : ByteArray

def isL (c : UInt8) : Bool := decide (97 ≤ (c.toNat : Int)) && decide ((c.toNat : Int) ≤ 122)
def isD (c : UInt8) : Bool := decide (48 ≤ (c.toNat : Int)) && decide ((c.toNat : Int) ≤ 57)
def isW (c : UInt8) : Bool := isL c || isD c
def notNl (c : UInt8) : Bool := (c.toNat : Int) != 10
def isB (c : UInt8) : Bool := (c.toNat : Int) == 32 || ((c.toNat : Int) == 9 || (c.toNat : Int) == 10)
def runTo (p : UInt8 → Bool) (l : List UInt8) (k : Nat) : Nat := k + ((l.drop k).takeWhile p).length
def byteAt (l : List UInt8) (k : Nat) : UInt8 := l.getD k 0

theorem runTo_stop (p : UInt8 → Bool) (l : List UInt8) (k : Nat) (h : ∀ h : k < l.length, p l[k] = false) : runTo p l k = k := by
  unfold runTo
  by_cases hk : k < l.length
  · rw [List.drop_eq_getElem_cons hk, List.takeWhile_cons, h hk]; simp
  · rw [List.drop_eq_nil_of_le (by omega)]; simp
theorem runTo_go (p : UInt8 → Bool) (l : List UInt8) (k : Nat) (hk : k < l.length) (h : p l[k] = true) : runTo p l k = runTo p l (k+1) := by
  unfold runTo
  rw [List.drop_eq_getElem_cons hk, List.takeWhile_cons, h]; simp; omega
theorem takeWhile_le (p : UInt8 → Bool) (l : List UInt8) : (l.takeWhile p).length ≤ l.length := by
  induction l with
  | nil => simp
  | cons a r ih => rw [List.takeWhile_cons]; split <;> simp; omega
theorem runTo_le (p : UInt8 → Bool) (l : List UInt8) (k : Nat) (hk : k ≤ l.length) : k ≤ runTo p l k ∧ runTo p l k ≤ l.length := by
  unfold runTo
  have := takeWhile_le p (l.drop k)
  simp at this
  omega
theorem runTo_gt (p : UInt8 → Bool) (l : List UInt8) (k : Nat) (hk : k < l.length) (h : p l[k] = true) : k < runTo p l k := by
  rw [runTo_go p l k hk h]; have := runTo_le p l (k+1) (by omega); omega

/-- How many bytes part tokens, from here on; in a note or not. -/
def skipN : Bool → List UInt8 → Nat
  | _, [] => 0
  | note, c :: r => if note || (c.toNat : Int) == 37 then 1 + skipN (notNl c) r else if isB c then 1 + skipN false r else 0

theorem skipN_le (b : Bool) (l : List UInt8) : skipN b l ≤ l.length := by
  induction l generalizing b with
  | nil => simp [skipN]
  | cons c r ih =>
    unfold skipN
    split
    · have := ih (notNl c); simp; omega
    · split
      · have := ih false; simp; omega
      · simp
theorem skipN_note (l : List UInt8) : skipN true l = (l.takeWhile notNl).length + skipN false (l.drop (l.takeWhile notNl).length) := by
  induction l with
  | nil => simp [skipN]
  | cons c r ih =>
    rw [List.takeWhile_cons]
    cases h : notNl c
    · have h10 : (c.toNat : Int) = 10 := by simpa [notNl] using h
      simp only [Bool.false_eq_true, if_false, List.length_nil, Nat.zero_add, List.drop_zero]
      simp [skipN, h, h10, isB]
    · simp only [if_true, List.length_cons, List.drop_succ_cons]
      simp only [skipN, Bool.true_or, if_true, h]
      rw [ih]; omega

def skipTo (b : Bool) (l : List UInt8) (k : Nat) : Nat := k + skipN b (l.drop k)
theorem skipTo_le (b : Bool) (l : List UInt8) (k : Nat) (hk : k ≤ l.length) : k ≤ skipTo b l k ∧ skipTo b l k ≤ l.length := by
  unfold skipTo
  have := skipN_le b (l.drop k)
  simp at this
  omega
theorem skipTo_end (b : Bool) (l : List UInt8) (k : Nat) (hk : ¬ k < l.length) : skipTo b l k = k := by
  unfold skipTo; rw [List.drop_eq_nil_of_le (by omega)]; simp [skipN]
theorem skipTo_blank (l : List UInt8) (k : Nat) (hk : k < l.length) (h : isB l[k] = true) : skipTo false l k = skipTo false l (k+1) := by
  unfold skipTo
  have h37 : ((l[k].toNat : Int) == 37) = false := by
    simp only [isB, Bool.or_eq_true, beq_iff_eq] at h
    simp only [beq_eq_false_iff_ne]; omega
  rw [List.drop_eq_getElem_cons hk]
  simp only [skipN, h37, h, Bool.false_or, Bool.false_eq_true, if_false, if_true]; omega
theorem skipTo_note (b : Bool) (l : List UInt8) (k : Nat) (hk : k < l.length) (h : (b || (l[k].toNat : Int) == 37) = true) : skipTo b l k = skipTo (notNl l[k]) l (k+1) := by
  unfold skipTo
  rw [List.drop_eq_getElem_cons hk]
  simp only [skipN, h, if_true]; omega
theorem skipTo_percent (l : List UInt8) (k : Nat) (hk : k < l.length) (h : (l[k].toNat : Int) = 37) : skipTo false l k = skipTo false l (runTo notNl l k) := by
  have hn : notNl l[k] = true := by unfold notNl; rw [h]; decide
  rw [skipTo_note false l k hk (by simp [h]), runTo_go notNl l k hk hn, hn]
  unfold skipTo runTo
  rw [skipN_note, List.drop_drop]; omega
theorem skipTo_stop (l : List UInt8) (k : Nat) (hk : k < l.length) (h : isB l[k] = false) (h37 : ((l[k].toNat : Int) == 37) = false) : skipTo false l k = k := by
  unfold skipTo
  rw [List.drop_eq_getElem_cons hk]
  simp [skipN, h, h37]

/-- How long the sign at a text's beginning is; 0: there is none. -/
def sign2 (l : List UInt8) : Bool := (l.take 2 == [46, 46]) || ((l.take 2 == [60, 61]) || ((l.take 2 == [62, 61]) || ((l.take 2 == [61, 61]) || (l.take 2 == [33, 61]))))
def sign1 (c : UInt8) : Bool := ((c.toNat : Int) == 91) || (((c.toNat : Int) == 93) || (((c.toNat : Int) == 59) || (((c.toNat : Int) == 58) || (((c.toNat : Int) == 44) || ((c.toNat : Int) == 45)))))
def signN (l : List UInt8) : Nat := if sign2 l then 2 else if sign1 (byteAt l 0) then 1 else 0
theorem sign2_len (l : List UInt8) (h : sign2 l = true) : 2 ≤ l.length := by
  have : (l.take 2).length = 2 := by
    simp only [sign2, Bool.or_eq_true, beq_iff_eq] at h
    rcases h with h | h | h | h | h <;> rw [h] <;> rfl
  simp at this; omega
theorem signN_le (l : List UInt8) (h : 0 < l.length) : signN l ≤ l.length := by
  unfold signN
  split
  · exact sign2_len l ‹_›
  · split <;> omega

/-- The kind of the token that begins at a place, and where it ends; kind 0: none does. -/
def kindOf (l : List UInt8) (k : Nat) : Nat :=
  if isL (byteAt l k) then 1 else if isD (byteAt l k) then 2 else if signN (l.drop k) = 0 then 0 else 3
def endOf (l : List UInt8) (k : Nat) : Nat :=
  if isL (byteAt l k) then runTo isW l k else if isD (byteAt l k) then runTo isD l k else k + signN (l.drop k)
theorem byteAt_get (l : List UInt8) (k : Nat) (hk : k < l.length) : byteAt l k = l[k] := by simp [byteAt, hk]
theorem endOf_le (l : List UInt8) (k : Nat) (hk : k < l.length) : k ≤ endOf l k ∧ endOf l k ≤ l.length := by
  unfold endOf
  split
  · exact runTo_le _ _ _ (by omega)
  · split
    · exact runTo_le _ _ _ (by omega)
    · have := signN_le (l.drop k) (by simp; omega); simp at this; omega
theorem endOf_gt (l : List UInt8) (k : Nat) (hk : k < l.length) (h : kindOf l k ≠ 0) : k < endOf l k := by
  unfold kindOf at h; unfold endOf
  rw [byteAt_get l k hk] at *
  split
  · refine runTo_gt _ _ _ hk ?_; rename_i h1; simp [isW, h1]
  · split
    · exact runTo_gt _ _ _ hk ‹_›
    · rename_i h1 h2; simp [h1, h2] at h; omega

def tokAt (s : ByteArray) (k : Nat) : Tok :=
  if kindOf s.data.toList k = 0 then ⟨0, 0, ByteArray.empty⟩ else ⟨kindOf s.data.toList k, k, s.extract k (endOf s.data.toList k)⟩
def errOf (kind : Int) (t : ByteArray) : Int :=
  if kind = 1 then (if 12 < t.size then 2 else 0) else if kind = 2 then (if 4 < t.size then 2 else if 1 < t.size ∧ ((byteAt t.data.toList 0).toNat : Int) = 48 then 1 else 0) else if kind = 3 then 0 else 1

/-- The scan: what is gathered, the place, the error. -/
def scanF : Nat → ByteArray → Nat → List Tok → List Tok × Nat × Int
  | 0, _, _, acc => (acc, 0, 0)
  | f + 1, s, k, acc =>
    if skipTo false s.data.toList k < s.size then
      if errOf (tokAt s (skipTo false s.data.toList k)).kind (tokAt s (skipTo false s.data.toList k)).text = 0 then
        scanF f s (endOf s.data.toList (skipTo false s.data.toList k)) (acc ++ [tokAt s (skipTo false s.data.toList k)])
      else ([], skipTo false s.data.toList k, errOf (tokAt s (skipTo false s.data.toList k)).kind (tokAt s (skipTo false s.data.toList k)).text)
    else (acc, 0, 0)
def scanOf (s : ByteArray) : List Tok × Nat × Int := if 4000 < s.size then ([], 0, 2) else scanF (s.size + 1) s 0 []

theorem scanF_end (f : Nat) (s : ByteArray) (k : Nat) (acc : List Tok) (h : ¬ skipTo false s.data.toList k < s.size) : scanF f s k acc = (acc, 0, 0) := by
  cases f with
  | zero => rfl
  | succ f => rw [scanF, if_neg h]
theorem scanF_err (f : Nat) (s : ByteArray) (k j : Nat) (acc : List Tok) (hj : skipTo false s.data.toList k = j) (h : j < s.size) (he : errOf (tokAt s j).kind (tokAt s j).text ≠ 0) :
    scanF (f + 1) s k acc = ([], j, errOf (tokAt s j).kind (tokAt s j).text) := by
  rw [scanF, hj, if_pos h, if_neg he]
theorem scanF_next (f : Nat) (s : ByteArray) (k j : Nat) (acc : List Tok) (hj : skipTo false s.data.toList k = j) (h : j < s.size) (he : errOf (tokAt s j).kind (tokAt s j).text = 0) :
    scanF (f + 1) s k acc = scanF f s (endOf s.data.toList j) (acc ++ [tokAt s j]) := by
  rw [scanF, hj, if_pos h, if_pos he]
theorem kind_of_ok (s : ByteArray) (j : Nat) (he : errOf (tokAt s j).kind (tokAt s j).text = 0) : kindOf s.data.toList j ≠ 0 := by
  intro h
  unfold tokAt at he
  rw [if_pos h] at he
  simp [errOf] at he
theorem size_extract (s : ByteArray) (a b : Nat) (h : b ≤ s.size) : (s.extract a b).size = b - a := by
  simp [ByteArray.size_extract]; omega

end Go.Proofs.YtggkbhafbhhhhabGreatDoor
