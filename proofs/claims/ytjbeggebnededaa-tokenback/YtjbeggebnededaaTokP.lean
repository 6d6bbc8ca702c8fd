/-
  PLAIN: what is joined is scanned as it was; what is scanned is alone.
-/
import Derived.Test.YtjbeggebnededaaTokI
namespace Go.Proofs.Ytjbeggebnededaa
open Go.RowKit

theorem byteAt_drop (l : List UInt8) (k : Nat) : byteAt (l.drop k) 0 = byteAt l k := by unfold byteAt; simp
theorem runTo_drop (p : UInt8 → Bool) (l : List UInt8) (k : Nat) : runTo p l k = k + runTo p (l.drop k) 0 := by unfold runTo; simp
theorem kindOf_drop (l : List UInt8) (k : Nat) : kindOf l k = kindOf (l.drop k) 0 := by unfold kindOf; rw [byteAt_drop, List.drop_zero]
theorem endOf_drop (l : List UInt8) (k : Nat) : endOf l k = k + endOf (l.drop k) 0 := by
  unfold endOf
  rw [byteAt_drop, List.drop_zero]
  split
  · exact runTo_drop _ _ _
  · split
    · exact runTo_drop _ _ _
    · omega

theorem takeWhile_app (p : UInt8 → Bool) (a b : List UInt8) (ha : (a.takeWhile p).length = a.length) (hb : b = [] ∨ ∃ r, b = 32 :: r) (h32 : p 32 = false) : (a ++ b).takeWhile p = a := by
  induction a with
  | nil =>
    rcases hb with rfl | ⟨r, rfl⟩
    · rfl
    · simp [h32]
  | cons c q ih =>
    rw [List.takeWhile_cons] at ha
    split at ha
    · rename_i hc
      simp only [List.length_cons, Nat.add_right_cancel_iff] at ha
      rw [List.cons_append, List.takeWhile_cons, if_pos hc, ih ha]
    · simp at ha

theorem sign2_app (a b : List UInt8) (h1 : a.length = 1) (hb : b = [] ∨ ∃ r, b = 32 :: r) : sign2 (a ++ b) = false ∧ sign2 a = false := by
  obtain ⟨c, rfl⟩ := List.length_eq_one_iff.1 h1
  refine ⟨?_, ?_⟩
  · rcases hb with rfl | ⟨r, rfl⟩
    · simp [sign2]
    · simp [sign2]
  · simp [sign2]
theorem sign2_long (a b : List UInt8) (h : 2 ≤ a.length) : sign2 (a ++ b) = sign2 a := by
  unfold sign2; rw [List.take_append_of_le_length h]

/-- A token at the head of a text, with a blank or nothing behind it. -/
theorem head_tok (a b : List UInt8) (h0 : 0 < a.length) (he : endOf a 0 = a.length) (hk : kindOf a 0 ≠ 0) (hb : b = [] ∨ ∃ r, b = 32 :: r) : kindOf (a ++ b) 0 = kindOf a 0 ∧ endOf (a ++ b) 0 = a.length := by
  have hby : byteAt (a ++ b) 0 = byteAt a 0 := by
    cases a with
    | nil => simp at h0
    | cons c q => rfl
  unfold kindOf endOf at *
  rw [hby]
  rw [List.drop_zero] at *
  cases h1 : isL (byteAt a 0)
  · cases h2 : isD (byteAt a 0)
    · simp only [h1, h2, Bool.false_eq_true, if_false] at he hk ⊢
      rw [List.drop_zero]
      have hs : signN a = a.length := by omega
      have hs2 : signN (a ++ b) = signN a := by
        by_cases hl : a.length = 1
        · have := sign2_app a b hl hb
          unfold signN; rw [this.1, this.2, hby]
        · have := sign2_long a b (by omega)
          unfold signN; rw [this, hby]
      rw [hs2, hs]
      exact ⟨rfl, by omega⟩
    · simp only [h1, h2, Bool.false_eq_true, if_false, if_true] at he ⊢
      refine ⟨trivial, ?_⟩
      unfold runTo at he ⊢
      rw [List.drop_zero] at he ⊢
      rw [takeWhile_app isD a b (by omega) hb (by decide)]; omega
  · simp only [h1, if_true] at he ⊢
    refine ⟨trivial, ?_⟩
    unfold runTo at he ⊢
    rw [List.drop_zero] at he ⊢
    rw [takeWhile_app isW a b (by omega) hb (by decide)]; omega

theorem extract_list (s : ByteArray) (j : Nat) (t : ByteArray) (b : List UInt8) (h : s.data.toList.drop j = t.data.toList ++ b) : s.extract j (j + t.size) = t := by
  apply ByteArray.ext
  apply Array.toList_inj.1
  rw [ByteArray.data_extract, Array.toList_extract, List.extract_eq_take_drop, h, Nat.add_sub_cancel_left]
  rw [← len_size t, List.take_left]

def tailL (r : List Tok) : List UInt8 := r.flatMap fun u => 32 :: u.text.data.toList
theorem tailL_form (r : List Tok) : tailL r = [] ∨ ∃ q, tailL r = 32 :: q := by
  cases r with
  | nil => left; rfl
  | cons a q => right; exact ⟨_, by simp only [tailL, List.flatMap_cons, List.cons_append]; rfl⟩

/-- The one round at such a token. -/
theorem scan_step (s : ByteArray) (f k j : Nat) (acc r : List Tok) (t : Tok) (ht : isTok t.kind t.text = true) (hsk : j < s.size → kindOf s.data.toList j ≠ 0 → skipTo false s.data.toList k = j)
    (hd : s.data.toList.drop j = t.text.data.toList ++ tailL r) : scanF (f + 1) s k acc = scanF f s (j + t.text.size) (acc ++ [⟨t.kind, j, t.text⟩]) ∧ j + t.text.size ≤ s.size ∧ 0 < t.text.size := by
  obtain ⟨h0, h4, hk, hkind, hend, herr⟩ := (isTok_iff _ _).1 ht
  have hlen : (s.data.toList.drop j).length = t.text.size + (tailL r).length := by rw [hd, List.length_append, len_size]
  rw [List.length_drop, len_size] at hlen
  have hj : j < s.size := by omega
  have hkd : kindOf t.text.data.toList 0 ≠ 0 := by intro h'; rw [h'] at hkind; exact hk hkind.symm
  obtain ⟨e1, e2⟩ := head_tok t.text.data.toList (tailL r) (by rw [len_size]; exact h0) (by rw [len_size]; exact hend) hkd (tailL_form r)
  have k1 : kindOf s.data.toList j = kindOf t.text.data.toList 0 := by rw [kindOf_drop, hd, e1]
  have k2 : endOf s.data.toList j = j + t.text.size := by rw [endOf_drop, hd, e2, len_size]
  have htok : tokAt s j = ⟨t.kind, j, t.text⟩ := by
    unfold tokAt; rw [if_neg (by rw [k1]; exact hkd), k1, k2, hkind, extract_list s j t.text _ hd]
  refine ⟨?_, by omega, h0⟩
  rw [scanF_next f s k j acc (hsk hj (by rw [k1]; exact hkd)) hj (by rw [htok]; exact herr), k2, htok]

/-- Tokens that are the same but for where they begin. -/
def sameBut (a b : List Tok) : Prop := a.length = b.length ∧ ∀ (i : Nat) (t u : Tok), a[i]? = some t → b[i]? = some u → t.kind = u.kind ∧ t.text = u.text
theorem sameBut_nil : sameBut [] [] := ⟨rfl, fun i t u h => by simp at h⟩
theorem sameBut_cons (t : Tok) (p : Int) (a b : List Tok) (h : sameBut a b) : sameBut (t :: a) (⟨t.kind, p, t.text⟩ :: b) := by
  refine ⟨by simp [h.1], fun i x y hx hy => ?_⟩
  cases i with
  | zero => simp at hx hy; subst hx hy; exact ⟨rfl, rfl⟩
  | succ i => exact h.2 i x y (by simpa using hx) (by simpa using hy)

theorem scan_tail (s : ByteArray) (r : List Tok) : ∀ (f k : Nat) (acc : List Tok), r.all aloneB = true → s.data.toList.drop k = tailL r → k ≤ s.size → s.size < k + f →
    ∃ us, scanF f s k acc = (acc ++ us, 0, 0) ∧ sameBut r us := by
  induction r with
  | nil =>
    intro f k acc _ hd hk hf
    refine ⟨[], ?_, sameBut_nil⟩
    have hlen : (s.data.toList.drop k).length = 0 := by rw [hd]; rfl
    rw [List.length_drop, len_size] at hlen
    rw [scanF_end f s k acc (by rw [skipTo_end _ _ _ (by rw [len_size]; omega)]; omega), List.append_nil]
  | cons t r ih =>
    intro f k acc hall hd hk hf
    simp only [List.all_cons, Bool.and_eq_true] at hall
    have htok : isTok t.kind t.text = true := by rw [← alone_iff]; exact hall.1
    have hd' : s.data.toList.drop k = 32 :: (t.text.data.toList ++ tailL r) := by rw [hd]; simp [tailL]
    have hlen : (s.data.toList.drop k).length = t.text.size + (tailL r).length + 1 := by rw [hd', List.length_cons, List.length_append, len_size]
    rw [List.length_drop, len_size] at hlen
    have hkl : k < s.data.toList.length := by rw [len_size]; omega
    have h32 : s.data.toList[k] = 32 := by
      rw [List.drop_eq_getElem_cons hkl] at hd'; exact (List.cons.inj hd').1
    have hd1 : s.data.toList.drop (k + 1) = t.text.data.toList ++ tailL r := by
      rw [List.drop_eq_getElem_cons hkl] at hd'; exact (List.cons.inj hd').2
    obtain ⟨f, rfl⟩ : ∃ f', f = f' + 1 := ⟨f - 1, by omega⟩
    obtain ⟨hs, hle, hpos⟩ := scan_step s f k (k + 1) acc r t htok (fun hj hkd => by
      rw [skipTo_blank _ k hkl (by rw [h32]; rfl)]
      have hl1 : k + 1 < s.data.toList.length := by rw [len_size]; exact hj
      obtain ⟨g1, g2⟩ := kind_not_blank _ (k + 1) hl1 hkd
      exact skipTo_stop _ _ hl1 g1 g2) hd1
    have hd2 : s.data.toList.drop (k + 1 + t.text.size) = tailL r := by
      rw [← List.drop_drop, hd1, ← len_size t.text, List.drop_left]
    obtain ⟨us, hu, hsame⟩ := ih f (k + 1 + t.text.size) (acc ++ [⟨t.kind, (k + 1 : Nat), t.text⟩]) hall.2 hd2 hle (by omega)
    exact ⟨⟨t.kind, (k + 1 : Nat), t.text⟩ :: us, by rw [hs, hu]; simp, sameBut_cons t _ r us hsame⟩

theorem scan_join (ts : List Tok) (h : ts.all aloneB = true) (h4 : ¬ 4000 < joinN ts) : ∃ us, scanOf ⟨(joinL ts).toArray⟩ = (us, 0, 0) ∧ sameBut ts us := by
  have hsz : (⟨(joinL ts).toArray⟩ : ByteArray).size = joinN ts := by rw [← joinL_len]; rfl
  generalize hs : (⟨(joinL ts).toArray⟩ : ByteArray) = s at *
  have hdata : s.data.toList = joinL ts := by rw [← hs]
  unfold scanOf
  rw [if_neg (by omega)]
  cases ts with
  | nil =>
    exact ⟨[], by rw [scanF_end _ s 0 [] (by rw [skipTo_end _ _ _ (by rw [len_size, hsz]; simp [joinN])]; rw [hsz]; simp [joinN])], sameBut_nil⟩
  | cons t r =>
    simp only [List.all_cons, Bool.and_eq_true] at h
    have htok : isTok t.kind t.text = true := by rw [← alone_iff]; exact h.1
    have hd : s.data.toList.drop 0 = t.text.data.toList ++ tailL r := by rw [List.drop_zero, hdata]; rfl
    obtain ⟨hst, hle, hpos⟩ := scan_step s s.size 0 0 [] r t htok (fun hj hkd => by
      have hl : 0 < s.data.toList.length := by rw [len_size]; exact hj
      obtain ⟨g1, g2⟩ := kind_not_blank _ 0 hl hkd
      exact skipTo_stop _ _ hl g1 g2) hd
    have hd2 : s.data.toList.drop (0 + t.text.size) = tailL r := by
      rw [← List.drop_drop, hd, ← len_size t.text, List.drop_left]
    obtain ⟨us, hu, hsame⟩ := scan_tail s r s.size (0 + t.text.size) ([] ++ [⟨t.kind, (0 : Nat), t.text⟩]) h.2 hd2 hle (by omega)
    exact ⟨⟨t.kind, (0 : Nat), t.text⟩ :: us, by rw [hst, hu]; simp, sameBut_cons t _ r us hsame⟩

theorem take_takeWhile (p : UInt8 → Bool) (l : List UInt8) : (l.take (l.takeWhile p).length).takeWhile p = l.takeWhile p := by
  induction l with
  | nil => rfl
  | cons a r ih =>
    rw [List.takeWhile_cons]
    split
    · rename_i h; rw [List.length_cons, List.take_succ_cons, List.takeWhile_cons, if_pos h, ih]
    · rfl
/-- What stands by itself at a text's head is a token when it is cut off. -/
theorem cut_tok (l : List UInt8) (h0 : 0 < l.length) (hk : kindOf l 0 ≠ 0) : kindOf (l.take (endOf l 0)) 0 = kindOf l 0 ∧ endOf (l.take (endOf l 0)) 0 = endOf l 0 := by
  have hpos := endOf_gt l 0 h0 hk
  have hby : byteAt (l.take (endOf l 0)) 0 = byteAt l 0 := by
    unfold byteAt
    cases l with
    | nil => simp at h0
    | cons c q => rw [List.getD_eq_getElem?_getD, List.getElem?_take, if_pos hpos]; rfl
  unfold kindOf at hk ⊢
  rw [hby]
  unfold endOf at hby ⊢
  cases h1 : isL (byteAt l 0)
  · cases h2 : isD (byteAt l 0)
    · simp only [h1, h2, Bool.false_eq_true, if_false, List.drop_zero, Nat.zero_add] at hby hk ⊢
      rw [hby]
      simp only [h1, h2, Bool.false_eq_true, if_false]
      have hs : signN (l.take (signN l)) = signN l := by
        by_cases h3 : sign2 l = true
        · have e2 : signN l = 2 := by unfold signN; rw [if_pos h3]
          rw [e2]
          have : sign2 (l.take 2) = true := by unfold sign2 at h3 ⊢; rw [List.take_take]; exact h3
          unfold signN; rw [if_pos this]
        · have h3' : sign2 l = false := by simpa using h3
          by_cases h4 : sign1 (byteAt l 0) = true
          · have e1 : signN l = 1 := by unfold signN; rw [h3', if_neg (by simp), if_pos h4]
            rw [e1] at hby ⊢
            have hl1 : (l.take 1).length = 1 := by simp; omega
            have := (sign2_app (l.take 1) [] hl1 (Or.inl rfl)).2
            unfold signN; rw [this, if_neg (by simp), hby, if_pos h4]
          · exfalso
            have e0 : signN l = 0 := by unfold signN; rw [h3', if_neg (by simp), if_neg h4]
            rw [e0] at hk; simp at hk
      rw [hs]
      exact ⟨rfl, rfl⟩
    · simp only [h1, h2, Bool.false_eq_true, if_false, if_true] at hby ⊢
      rw [hby]
      simp only [h1, h2, Bool.false_eq_true, if_false, if_true]
      refine ⟨trivial, ?_⟩
      unfold runTo
      simp only [List.drop_zero, Nat.zero_add]
      rw [take_takeWhile]
  · simp only [h1, if_true] at hby ⊢
    rw [hby]
    simp only [h1, if_true]
    refine ⟨trivial, ?_⟩
    unfold runTo
    simp only [List.drop_zero, Nat.zero_add]
    rw [take_takeWhile]

theorem tokAt_alone (s : ByteArray) (j : Nat) (hj : j < s.size) (h4 : s.size ≤ 4000) (he : errOf (tokAt s j).kind (tokAt s j).text = 0) : aloneB (tokAt s j) = true := by
  have hkd := kind_of_ok s j he
  have hl : j < s.data.toList.length := by rw [len_size]; exact hj
  have hgt := endOf_gt _ j hl hkd
  have hle := (endOf_le _ j hl).2
  rw [len_size] at hle
  have htok : tokAt s j = ⟨kindOf s.data.toList j, j, s.extract j (endOf s.data.toList j)⟩ := by unfold tokAt; rw [if_neg hkd]
  have hsz : (s.extract j (endOf s.data.toList j)).size = endOf s.data.toList j - j := size_extract _ _ _ hle
  have hdl : 0 < (s.data.toList.drop j).length := by rw [List.length_drop]; omega
  have hkd' : kindOf (s.data.toList.drop j) 0 ≠ 0 := by rw [← kindOf_drop]; exact hkd
  obtain ⟨c1, c2⟩ := cut_tok _ hdl hkd'
  have hend : endOf s.data.toList j - j = endOf (s.data.toList.drop j) 0 := by rw [endOf_drop]; omega
  have htext : (s.extract j (endOf s.data.toList j)).data.toList = (s.data.toList.drop j).take (endOf (s.data.toList.drop j) 0) := by
    rw [ByteArray.data_extract, Array.toList_extract, List.extract_eq_take_drop, hend]
  rw [alone_iff]
  rw [htok] at he ⊢
  refine (isTok_iff _ _).2 ⟨by rw [hsz]; omega, by rw [hsz]; omega, by simpa using hkd, ?_, ?_, he⟩
  · rw [htext, c1, ← kindOf_drop]
  · rw [htext, c2, hsz, hend]

theorem scanF_alone (s : ByteArray) (h4 : s.size ≤ 4000) (f : Nat) : ∀ (k : Nat) (acc : List Tok), acc.all aloneB = true → (scanF f s k acc).2.2 = 0 → (scanF f s k acc).1.all aloneB = true := by
  induction f with
  | zero => intro k acc h _; exact h
  | succ f ih =>
    intro k acc hacc h
    by_cases h1 : skipTo false s.data.toList k < s.size
    · by_cases h2 : errOf (tokAt s (skipTo false s.data.toList k)).kind (tokAt s (skipTo false s.data.toList k)).text = 0
      · rw [scanF_next f s k _ acc rfl h1 h2] at h ⊢
        refine ih _ _ ?_ h
        rw [List.all_append, hacc]
        simp [tokAt_alone s _ h1 h4 h2]
      · rw [scanF_err f s k _ acc rfl h1 h2] at h; exact absurd h h2
    · rw [scanF_end _ s k acc h1]; exact hacc
theorem scanF_len (s : ByteArray) (f : Nat) : ∀ (k : Nat) (acc : List Tok), (scanF f s k acc).1.length ≤ acc.length + f := by
  induction f with
  | zero => intro k acc; simp [scanF]
  | succ f ih =>
    intro k acc
    by_cases h1 : skipTo false s.data.toList k < s.size
    · by_cases h2 : errOf (tokAt s (skipTo false s.data.toList k)).kind (tokAt s (skipTo false s.data.toList k)).text = 0
      · rw [scanF_next f s k _ acc rfl h1 h2]
        have := ih (endOf s.data.toList (skipTo false s.data.toList k)) (acc ++ [tokAt s (skipTo false s.data.toList k)])
        simp only [List.length_append, List.length_singleton] at this; omega
      · rw [scanF_err f s k _ acc rfl h1 h2]; simp
    · rw [scanF_end _ s k acc h1]; simp
theorem scan_alone (s : ByteArray) (h : (scanOf s).2.2 = 0) : (scanOf s).1.all aloneB = true := by
  unfold scanOf at h ⊢
  by_cases hb : 4000 < s.size
  · rw [if_pos hb]; rfl
  · rw [if_neg hb] at h ⊢; exact scanF_alone s (by omega) _ 0 [] rfl h
theorem scan_len (s : ByteArray) : (scanOf s).1.length ≤ 4001 := by
  unfold scanOf
  by_cases hb : 4000 < s.size
  · rw [if_pos hb]; simp
  · rw [if_neg hb]; have := scanF_len s (s.size + 1) 0 []; simp only [List.length_nil] at this; omega
end Go.Proofs.Ytjbeggebnededaa
