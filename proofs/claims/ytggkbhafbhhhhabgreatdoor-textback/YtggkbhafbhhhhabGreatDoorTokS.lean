/-
  WALK: Scan at every text; what its tokens are in memory; PLAIN: which tokens are alone in their text; what is joined of tokens.
-/
import Derived.Test.YtggkbhafbhhhhabGreatDoorTokC
import Derived.Deep.QuietTactic
import Derived.BigQuiet
namespace Go.Proofs.YtggkbhafbhhhhabGreatDoor
open Go.RowKit

theorem tokAt_some (s : ByteArray) (j n kd : Nat) (hk : kindOf s.data.toList j = kd) (h0 : kd ≠ 0) (hn : endOf s.data.toList j = j + n) : tokAt s j = ⟨kd, j, s.extract j (j + n)⟩ := by
  unfold tokAt; rw [if_neg (by rw [hk]; exact h0), hk, hn]
theorem toksCells_snoc (l : List Tok) (t : Tok) : toksCells (l ++ [t]) = toksCells l ++ tokCells t := by simp [toksCells]
theorem err1_long (t : ByteArray) (h : 12 < t.size) : errOf 1 t = 2 := by unfold errOf; rw [if_pos rfl, if_pos h]
theorem err1_ok (t : ByteArray) (h : ¬ 12 < t.size) : errOf 1 t = 0 := by unfold errOf; rw [if_pos rfl, if_neg h]
theorem err2_long (t : ByteArray) (h : 4 < t.size) : errOf 2 t = 2 := by unfold errOf; rw [if_neg (by decide), if_pos rfl, if_pos h]
theorem err2_nought (t : ByteArray) (h : ¬ 4 < t.size) (h1 : 1 < t.size) (h2 : ((byteAt t.data.toList 0).toNat : Int) = 48) : errOf 2 t = 1 := by
  unfold errOf; rw [if_neg (by decide), if_pos rfl, if_neg h, if_pos ⟨h1, h2⟩]
theorem err2_ok (t : ByteArray) (h : ¬ 4 < t.size) (h1 : 1 < t.size → ((byteAt t.data.toList 0).toNat : Int) ≠ 48) : errOf 2 t = 0 := by
  unfold errOf; rw [if_neg (by decide), if_pos rfl, if_neg h, if_neg (fun h' => h1 h'.1 h'.2)]
theorem err3_ok (t : ByteArray) : errOf 3 t = 0 := rfl
theorem kind_cases (l : List UInt8) (j : Nat) : kindOf l j = 0 ∨ kindOf l j = 1 ∨ kindOf l j = 2 ∨ kindOf l j = 3 := by
  unfold kindOf; repeat' split
  all_goals omega

set_option maxHeartbeats 400000 in
set_option maxRecDepth 100000 in
theorem scan_all (s : ByteArray) (hs : s.size ≤ maxLen) (w : World) :
    Calls Tryz.prog 13 #[.string s] w fun e w' => ∃ v, e = .returned (.tuple #[v, .int .i64 (scanOf s).2.1, .int .i64 (scanOf s).2.2]) ∧
      w'.ownsRow w.heap.size 79 3 v (scanOf s).1.length (toksCells (scanOf s).1) ∧ Below w.heap.size w w' := by
  by_cases h : s.size ≤ 4000
  · exact scan_any s h w
  · unfold maxLen at hs
    have hR : scanOf s = ([], 0, 2) := by unfold scanOf; rw [if_pos (by omega)]
    rw [hR]
    clear hR
    go_enter Tryz.func13, Tryz.ntmps13
    go_wp2
    go_ret3
    exact ⟨_, rfl, World.ownsRow_nil _ _ _ _, Below.refl _ _⟩

theorem drewN_drewN (w : World) (a b : Nat) : (w.drewN a).drewN b = w.drewN (a + b) := by
  unfold World.drewN; simp only [Nat.add_assoc]

/-- The tokens that lie from a place on, three cells each. -/
def tokRow (w : World) (b off : Nat) (ts : List Tok) : Prop :=
  ∀ (i : Nat) (t : Tok), ts[i]? = some t → w.cell? ⟨b, off + i * 3, none⟩ = some (.int .i64 t.kind) ∧ w.cell? ⟨b, off + i * 3 + 1, none⟩ = some (.int .i64 t.place) ∧ w.cell? ⟨b, off + i * 3 + 2, none⟩ = some (.string t.text)

/-- Is a token the only one of its text? -/
def aloneB (t : Tok) : Bool :=
  ((scanOf t.text).2.2 == 0) && (((scanOf t.text).1.length == 1) && (((scanOf t.text).1.headD ⟨0, 0, ByteArray.empty⟩).kind == t.kind && ((scanOf t.text).1.headD ⟨0, 0, ByteArray.empty⟩).text.toList == t.text.toList))

theorem own_form {w : World} {base : Nat} {e : TypeId} {size n : Nat} {v : Value} {xs : List Value} (h : w.ownsRow base e size v n xs) : ∃ a cap, v = .slice a n cap := by
  rcases h.2 with ⟨rfl, rfl⟩ | ⟨g, cap, cur, rfl, _⟩
  · exact ⟨_, _, rfl⟩
  · exact ⟨_, _, rfl⟩
/-- What is owned lies in a row. -/
theorem own_row {w : World} {base : Nat} {v : Value} {ts : List Tok} (h : w.ownsRow base 79 3 v ts.length (toksCells ts)) (h0 : ts ≠ []) :
    ∃ g cap, v = .slice (some ⟨g, 0, none⟩) ts.length cap ∧ base ≤ g ∧ g < w.heap.size ∧ tokRow w g 0 ts := by
  rcases h.2 with ⟨_, hn⟩ | ⟨g, cap, cur, hv, hg, hb, hrest⟩
  · exact absurd (List.eq_nil_of_length_eq_zero hn) h0
  · have hlt : g < w.heap.size := (Array.getElem?_eq_some_iff.1 hb).1
    refine ⟨g, cap, hv, hg, hlt, ?_⟩
    have hc := h.cells (g := g) (by rw [hv]; rfl)
    intro i t ht
    have key : ∀ j, j < 3 → (toksCells ts)[i * 3 + j]? = (tokCells t)[j]? := by
      intro j hj
      clear hc h hrest hb hv h0
      induction ts generalizing i with
      | nil => simp at ht
      | cons a r ih =>
        cases i with
        | zero =>
          simp at ht; subst ht
          simp only [toksCells, List.flatMap_cons]
          rw [List.getElem?_append_left (by simp [tokCells]; omega)]; simp
        | succ i =>
          simp only [toksCells, List.flatMap_cons]
          rw [List.getElem?_append_right (by simp [tokCells]; omega)]
          have e1 : (i + 1) * 3 + j - (tokCells a).length = i * 3 + j := by simp [tokCells]; omega
          rw [e1]
          exact ih i (by simpa using ht)
    have hadd : ∀ j, (⟨g, 0, none⟩ : Addr).add j = ⟨g, 0 + j, none⟩ := fun j => by unfold Addr.add; split <;> simp_all
    refine ⟨?_, ?_, ?_⟩
    · have := hc (i * 3 + 0) _ (by rw [key 0 (by omega)]; rfl); rw [hadd] at this; exact this
    · have := hc (i * 3 + 1) _ (by rw [key 1 (by omega)]; rfl); rw [hadd] at this; exact this
    · have := hc (i * 3 + 2) _ (by rw [key 2 (by omega)]; rfl); rw [hadd] at this; exact this

theorem kind_not_blank (l : List UInt8) (k : Nat) (hk : k < l.length) (h : kindOf l k ≠ 0) : isB l[k] = false ∧ ((l[k].toNat : Int) == 37) = false := by
  have hb := byteAt_get l k hk
  have hb0 : byteAt (l.drop k) 0 = l[k] := by rw [← hb]; unfold byteAt; simp
  unfold kindOf at h
  rw [hb] at h
  have hs : isL l[k] = true ∨ isD l[k] = true ∨ signN (l.drop k) ≠ 0 := by
    cases h1 : isL l[k]
    · cases h2 : isD l[k]
      · right; right; intro h3; simp [h1, h2, h3] at h
      · right; left; rfl
    · left; rfl
  have ne : ∀ n : Int, (n = 32 ∨ n = 9 ∨ n = 10 ∨ n = 37) → (l[k].toNat : Int) ≠ n := by
    intro n hn he
    have e32 : n ≤ 37 := by omega
    rcases hs with h1 | h1 | h1
    · simp only [isL, Bool.and_eq_true, decide_eq_true_eq] at h1; omega
    · simp only [isD, Bool.and_eq_true, decide_eq_true_eq] at h1; omega
    · unfold signN at h1
      split at h1
      · rename_i h2
        rw [List.drop_eq_getElem_cons hk] at h2
        simp only [sign2, Bool.or_eq_true, beq_iff_eq, List.take_succ_cons, List.cons.injEq] at h2
        rcases h2 with h2 | h2 | h2 | h2 | h2 <;> (rw [h2.1] at he; simp at he; omega)
      · split at h1
        · rename_i h2
          rw [hb0] at h2
          simp only [sign1, Bool.or_eq_true, beq_iff_eq] at h2
          omega
        · exact h1 rfl
  refine ⟨?_, by simpa using ne 37 (by omega)⟩
  unfold isB
  rw [show ((l[k].toNat : Int) == 32) = false by simpa using ne 32 (by omega), show ((l[k].toNat : Int) == 9) = false by simpa using ne 9 (by omega), show ((l[k].toNat : Int) == 10) = false by simpa using ne 10 (by omega)]
  rfl

theorem scanF_head (f : Nat) (s : ByteArray) : ∀ (k : Nat) (acc : List Tok), (scanF f s k acc).2.2 = 0 → ∃ r, (scanF f s k acc).1 = acc ++ r := by
  induction f with
  | zero => intro k acc _; exact ⟨[], by simp [scanF]⟩
  | succ f ih =>
    intro k acc h
    by_cases h1 : skipTo false s.data.toList k < s.size
    · by_cases h2 : errOf (tokAt s (skipTo false s.data.toList k)).kind (tokAt s (skipTo false s.data.toList k)).text = 0
      · rw [scanF_next f s k _ acc rfl h1 h2] at h ⊢
        obtain ⟨r, hr⟩ := ih _ _ h
        exact ⟨tokAt s (skipTo false s.data.toList k) :: r, by rw [hr]; simp⟩
      · rw [scanF_err f s k _ acc rfl h1 h2] at h; exact absurd h h2
    · exact ⟨[], by rw [scanF_end _ s k acc h1]; simp⟩

/-- What the reference asks of a token. -/
def isTok (kind : Int) (s : ByteArray) : Bool :=
  decide (0 < s.size) && (decide (s.size ≤ 4000) && (decide (kind ≠ 0) && (decide ((kindOf s.data.toList 0 : Int) = kind) && (decide (endOf s.data.toList 0 = s.size) && decide (errOf kind s = 0)))))

theorem isTok_iff (kind : Int) (s : ByteArray) : isTok kind s = true ↔ 0 < s.size ∧ s.size ≤ 4000 ∧ kind ≠ 0 ∧ (kindOf s.data.toList 0 : Int) = kind ∧ endOf s.data.toList 0 = s.size ∧ errOf kind s = 0 := by
  simp only [isTok, Bool.and_eq_true, decide_eq_true_eq]

theorem whole_extract (s : ByteArray) : s.extract 0 s.size = s := by
  apply ByteArray.ext
  rw [ByteArray.data_extract]; exact Array.extract_size
theorem len_size (s : ByteArray) : s.data.toList.length = s.size := by simp

/-- A text that is one token is scanned as that one. -/
theorem scan_of_isTok (kind : Int) (s : ByteArray) (h : isTok kind s = true) : scanOf s = ([⟨kind, 0, s⟩], 0, 0) := by
  obtain ⟨h0, h4, hk, hkind, hend, herr⟩ := (isTok_iff kind s).1 h
  have hl : 0 < s.data.toList.length := by rw [len_size]; exact h0
  have hkd : kindOf s.data.toList 0 ≠ 0 := by intro h'; rw [h'] at hkind; exact hk hkind.symm
  obtain ⟨hb1, hb2⟩ := kind_not_blank _ 0 hl hkd
  have hsk : skipTo false s.data.toList 0 = 0 := skipTo_stop _ 0 hl hb1 hb2
  have ht : tokAt s 0 = ⟨kind, 0, s⟩ := by
    unfold tokAt; rw [if_neg hkd, hend, hkind, whole_extract]; rfl
  have he : errOf (tokAt s 0).kind (tokAt s 0).text = 0 := by rw [ht]; exact herr
  unfold scanOf
  rw [if_neg (by omega), scanF_next _ s 0 0 [] hsk h0 he, hend, ht]
  rw [scanF_end _ s s.size _ (by rw [skipTo_end _ _ _ (by rw [len_size]; omega)]; omega)]
  simp

theorem alone_iff (t : Tok) : aloneB t = isTok t.kind t.text := by
  cases hi : isTok t.kind t.text
  · cases ha : aloneB t
    · rfl
    · exfalso
      simp only [aloneB, Bool.and_eq_true, beq_iff_eq] at ha
      obtain ⟨h1, h2, h3, h4⟩ := ha
      have h4' : ((scanOf t.text).1.headD ⟨0, 0, ByteArray.empty⟩).text = t.text := by
        rw [ByteArray.toList_eq, ByteArray.toList_eq] at h4
        exact ByteArray.ext (Array.toList_inj.1 h4)
      generalize hs : t.text = s at *
      by_cases hbig : 4000 < s.size
      · unfold scanOf at h1; rw [if_pos hbig] at h1; exact absurd h1 (by decide)
      · unfold scanOf at h1 h2 h3 h4'
        rw [if_neg hbig] at h1 h2 h3 h4'
        by_cases hsk : skipTo false s.data.toList 0 < s.size
        · by_cases he : errOf (tokAt s (skipTo false s.data.toList 0)).kind (tokAt s (skipTo false s.data.toList 0)).text = 0
          · rw [scanF_next _ s 0 _ [] rfl hsk he] at h1 h2 h3 h4'
            obtain ⟨r, hr⟩ := scanF_head _ s _ _ h1
            rw [hr] at h3 h4'
            simp only [List.nil_append, List.cons_append, List.headD_cons] at h3 h4'
            have hkd := kind_of_ok s _ he
            have hl : skipTo false s.data.toList 0 < s.data.toList.length := by rw [len_size]; exact hsk
            have hle := (endOf_le _ _ hl).2
            rw [len_size] at hle
            have hsz : (tokAt s (skipTo false s.data.toList 0)).text.size = endOf s.data.toList (skipTo false s.data.toList 0) - skipTo false s.data.toList 0 := by
              unfold tokAt; rw [if_neg hkd]; exact size_extract _ _ _ hle
            rw [h4'] at hsz
            have hz : skipTo false s.data.toList 0 = 0 := by omega
            rw [hz] at hsz h3 h4' he hkd
            have hk3 : (kindOf s.data.toList 0 : Int) = t.kind := by rw [← h3]; unfold tokAt; rw [if_neg hkd]
            have : isTok t.kind s = true := (isTok_iff _ _).2 ⟨by omega, by omega, by rw [← hk3]; omega, hk3, by omega, by rw [h3, h4'] at he; exact he⟩
            rw [this] at hi; cases hi
          · rw [scanF_err _ s 0 _ [] rfl hsk he] at h1; exact he h1
        · rw [scanF_end _ s 0 [] hsk] at h2; simp at h2
  · have h1 := scan_of_isTok _ _ hi
    unfold aloneB
    rw [h1]; simp

theorem signN_two (l : List UInt8) : signN l ≤ 2 := by
  unfold signN
  split
  · omega
  · split <;> omega
theorem tok_size (kind : Int) (s : ByteArray) (h : isTok kind s = true) : 0 < s.size ∧ s.size ≤ 12 := by
  obtain ⟨h0, h4, hk, hkind, hend, herr⟩ := (isTok_iff kind s).1 h
  refine ⟨h0, ?_⟩
  have hl : 0 < s.data.toList.length := by rw [len_size]; exact h0
  rcases kind_cases s.data.toList 0 with h1 | h1 | h1 | h1
  · rw [h1] at hkind; exact absurd hkind.symm hk
  · rw [h1] at hkind
    have : kind = 1 := hkind.symm
    subst this
    unfold errOf at herr; rw [if_pos rfl] at herr
    split at herr
    · cases herr
    · omega
  · rw [h1] at hkind
    have : kind = 2 := hkind.symm
    subst this
    unfold errOf at herr; rw [if_neg (by decide), if_pos rfl] at herr
    split at herr
    · cases herr
    · omega
  · unfold kindOf at h1
    split at h1
    · cases h1
    · split at h1
      · cases h1
      · rename_i g1 g2
        unfold endOf at hend
        rw [if_neg g1, if_neg g2] at hend
        have : signN (s.data.toList.drop 0) ≤ 2 := signN_two _
        omega

/-- How long what is joined of tokens is, and its bytes. -/
def joinN : List Tok → Nat
  | [] => 0
  | t :: r => t.text.size + (r.map fun u => 1 + u.text.size).sum
def joinL : List Tok → List UInt8
  | [] => []
  | t :: r => t.text.data.toList ++ r.flatMap fun u => 32 :: u.text.data.toList
def joinOf (ts : List Tok) : ByteArray × Int :=
  if ts.all aloneB then (if 4000 < joinN ts then (ByteArray.empty, 2) else (⟨(joinL ts).toArray⟩, 0)) else (ByteArray.empty, 1)

theorem joinN_snoc (l : List Tok) (t : Tok) : joinN (l ++ [t]) = joinN l + (if l.length = 0 then 0 else 1) + t.text.size := by
  cases l with
  | nil => simp [joinN]
  | cons a r => simp [joinN]; omega
theorem joinL_snoc (l : List Tok) (t : Tok) : joinL (l ++ [t]) = joinL l ++ (if l.length = 0 then [] else [32]) ++ t.text.data.toList := by
  cases l with
  | nil => simp [joinL]
  | cons a r => simp [joinL]
theorem joinL_len (l : List Tok) : (joinL l).length = joinN l := by
  cases l with
  | nil => rfl
  | cons a r =>
    simp only [joinL, joinN, List.length_append, len_size, List.length_flatMap]
    congr 2
    apply List.map_congr_left
    intro u _
    simp [Nat.add_comm]
theorem joinN_le (l : List Tok) (h : l.all aloneB = true) : joinN l ≤ 13 * l.length := by
  have h1 : ∀ t ∈ l, t.text.size ≤ 12 := fun t ht => (tok_size t.kind t.text (by rw [← alone_iff]; exact List.all_eq_true.1 h t ht)).2
  cases l with
  | nil => simp [joinN]
  | cons a r =>
    have ha := h1 a (by simp)
    have hr : ∀ q : List Tok, (∀ t ∈ q, t.text.size ≤ 12) → (q.map fun u => 1 + u.text.size).sum ≤ 13 * q.length := by
      intro q
      induction q with
      | nil => simp
      | cons b q ih =>
        intro hq
        have := ih (fun t ht => hq t (by simp [ht]))
        have := hq b (by simp)
        simp only [List.map_cons, List.sum_cons, List.length_cons]; omega
    have := hr r (fun t ht => h1 t (by simp [ht]))
    simp only [joinN, List.length_cons]; omega
end Go.Proofs.YtggkbhafbhhhhabGreatDoor
