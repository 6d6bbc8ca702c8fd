/-
  PART 5 of what the proof leans on (FolPlain, SekPlain, SekQ, EnoPlain, EnoB, EnoC, TruB, FenA).
-/
import Derived.Test.YtdjbejlbmaiocagGreatDoorPartD
import Derived.Laws.ShiftsVarLaws
/-
  PLAIN: what one constraint leaves of values, what all rules leave till nothing changes, who is told of it; the least of a list that is enough; reasons and steps.
-/
namespace Go.Proofs.YtdjbejlbmaiocagGreatDoor

/-- Which points are of some values: the last one, all together, is there one? -/
def leftF (p : Nat) : List Nat → Nat × Nat × Bool → Nat × Nat × Bool
  | [], s => s
  | q :: r, s => leftF p r (if lessN q p = 0 then (q, s.2.1 ||| q, true) else s)
/-- Values without the fields of some. -/
def clrN : Nat → Nat → Nat → Nat
  | 0, _, p => p
  | f + 1, s, p => if s = 0 then p else clrN f (lessN s (fieldP s)) (lessN p (fieldP s))
def leftP (pts : List Nat) (p : Nat) : Nat :=
  if (leftF p pts (0, 0, false)).2.2 then clrN ((leftF p pts (0, 0, false)).1 + 1) (leftF p pts (0, 0, false)).1 p ||| (leftF p pts (0, 0, false)).2.1 else 0

theorem less_zero (q p : Nat) : lessN q p = 0 ↔ ∀ i, q.testBit i = true → p.testBit i = true := by
  constructor
  · intro h i hi
    have := congrArg (fun z => Nat.testBit z i) h
    simp only [testBit_less, hi, Nat.zero_testBit] at this
    simpa using this
  · intro h
    apply Nat.eq_of_testBit_eq
    intro i
    rw [testBit_less, Nat.zero_testBit]
    cases hq : q.testBit i
    · rfl
    · rw [h i hq]; rfl
theorem leftF_found (p : Nat) : ∀ (pts : List Nat) (s : Nat × Nat × Bool), (leftF p pts s).2.2 = true ↔ s.2.2 = true ∨ ∃ q ∈ pts, lessN q p = 0
  | [], s => by simp [leftF]
  | q :: r, s => by
    unfold leftF
    rw [leftF_found p r]
    by_cases h : lessN q p = 0
    · rw [if_pos h]
      simp [h]
    · rw [if_neg h]
      simp [h]
theorem leftF_stay (p : Nat) (i : Nat) : ∀ (pts : List Nat) (s : Nat × Nat × Bool), (leftF p pts s).2.1.testBit i = true ↔ s.2.1.testBit i = true ∨ ∃ q ∈ pts, lessN q p = 0 ∧ q.testBit i = true
  | [], s => by simp [leftF]
  | q :: r, s => by
    unfold leftF
    rw [leftF_stay p i r]
    by_cases h : lessN q p = 0
    · rw [if_pos h]
      simp only [Nat.testBit_or, Bool.or_eq_true, List.mem_cons, exists_eq_or_imp, h, true_and, or_assoc]
    · rw [if_neg h]
      simp [h]
theorem leftF_scope (p : Nat) : ∀ (pts : List Nat) (s : Nat × Nat × Bool), (leftF p pts s).1 = s.1 ∨ (leftF p pts s).1 ∈ pts ∧ lessN (leftF p pts s).1 p = 0
  | [], s => Or.inl rfl
  | q :: r, s => by
    unfold leftF
    rcases leftF_scope p r (if lessN q p = 0 then (q, s.2.1 ||| q, true) else s) with h | h
    · by_cases hq : lessN q p = 0
      · right
        rw [h, if_pos hq]
        exact ⟨List.mem_cons_self .., hq⟩
      · left
        rw [h, if_neg hq]
    · exact Or.inr ⟨List.mem_cons_of_mem _ h.1, h.2⟩
theorem field_testBit (s i : Nat) : (fieldP s).testBit i = decide (i / 6 = Lib.ctz 64 s / 6) := testBit_six _ _
theorem less_field_lt (s : Nat) (h0 : s ≠ 0) (h : s < 2 ^ 36) : lessN s (fieldP s) < s := by
  have hb := (low_bits s h0 (by omega) (Lib.ctz 64 s)).2.1 rfl
  have h1 := less_le s (fieldP s)
  have h2 : lessN s (fieldP s) ≠ s := fun he => by
    have := congrArg (fun z => Nat.testBit z (Lib.ctz 64 s)) he
    simp only [testBit_less, field_testBit, hb] at this
    simp at this
  omega
theorem clr_fuel : ∀ (f g s p : Nat), s < f → s < g → s < 2 ^ 36 → clrN f s p = clrN g s p
  | 0, g, s, p, hf, hg, _ => by omega
  | f + 1, 0, s, p, hf, hg, _ => by omega
  | f + 1, g + 1, s, p, hf, hg, h => by
    unfold clrN
    split
    · rfl
    · rename_i h0
      have := less_field_lt s h0 h
      exact clr_fuel f g _ _ (by omega) (by omega) (by omega)
theorem clr_step (s p : Nat) (h0 : s ≠ 0) (h : s < 2 ^ 36) : clrN (s + 1) s p = clrN (lessN s (fieldP s) + 1) (lessN s (fieldP s)) (lessN p (fieldP s)) := by
  conv => lhs; unfold clrN
  rw [if_neg h0]
  have := less_field_lt s h0 h
  exact clr_fuel _ _ _ _ (by omega) (by omega) (by omega)
theorem clr_bit (i : Nat) : ∀ (f s p : Nat), s < f → s < 2 ^ 36 → ((clrN f s p).testBit i = true ↔ p.testBit i = true ∧ ∀ j, s.testBit j = true → j / 6 ≠ i / 6)
  | 0, s, p, hf, _ => by omega
  | f + 1, s, p, hf, h => by
    unfold clrN
    by_cases h0 : s = 0
    · rw [if_pos h0, h0]
      simp
    · rw [if_neg h0]
      have hlt := less_field_lt s h0 h
      have hb := (low_bits s h0 (by omega) (Lib.ctz 64 s)).2.1 rfl
      rw [clr_bit i f _ _ (by omega) (by omega)]
      simp only [testBit_less, field_testBit, Bool.and_eq_true, Bool.not_eq_true', decide_eq_false_iff_not]
      constructor
      · rintro ⟨⟨h1, h2⟩, h3⟩
        refine ⟨h1, fun j hj he => ?_⟩
        by_cases hk : j / 6 = Lib.ctz 64 s / 6
        · omega
        · exact h3 j ⟨hj, hk⟩ he
      · rintro ⟨h1, h2⟩
        refine ⟨⟨h1, fun he => h2 _ hb he.symm⟩, fun j hj he => h2 j hj.1 he⟩
theorem left_bit (pts : List Nat) (p i : Nat) (hp : p < 2 ^ 36) (h : (leftP pts p).testBit i = true) : p.testBit i = true := by
  unfold leftP at h
  split at h
  · rw [Nat.testBit_or, Bool.or_eq_true] at h
    rcases h with h | h
    · have hs : (leftF p pts (0, 0, false)).1 < 2 ^ 36 := by
        rcases leftF_scope p pts (0, 0, false) with h1 | h1
        · rw [h1]; decide
        · exact Nat.lt_of_le_of_lt (Nat.le_of_testBit ((less_zero _ _).1 h1.2)) hp
      exact ((clr_bit i _ _ p (Nat.lt_succ_self _) hs).1 h).1
    · rcases (leftF_stay p i pts _).1 h with h1 | ⟨q, _, h1, h2⟩
      · simp at h1
      · exact (less_zero _ _).1 h1 i h2
  · simp at h
theorem left_le (pts : List Nat) (p : Nat) (hp : p < 2 ^ 36) : leftP pts p ≤ p := Nat.le_of_testBit fun i h => left_bit pts p i hp h
theorem left_scope_lt (pts : List Nat) (p : Nat) (hp : p < 2 ^ 36) : (leftF p pts (0, 0, false)).1 < 2 ^ 36 := by
  rcases leftF_scope p pts (0, 0, false) with h1 | h1
  · rw [h1]; decide
  · exact Nat.lt_of_le_of_lt (Nat.le_of_testBit ((less_zero _ _).1 h1.2)) hp

theorem round_bit (i : Nat) : ∀ (cs : List Nat) (left l : Nat), roundP cs left = some l → l.testBit i = true → left.testBit i = true
  | [], left, l, h, hi => by simp [roundP] at h; rw [h]; exact hi
  | c :: r, left, l, h, hi => by
    unfold roundP at h
    split at h
    · cases h
    · split at h
      · have := round_bit i r _ l h hi
        rw [testBit_less, Bool.and_eq_true] at this
        exact this.1
      · exact round_bit i r _ l h hi
theorem unitsN_bit (cs : List Nat) (i : Nat) : ∀ (f left : Nat), (unitsN cs f left).testBit i = true → left.testBit i = true
  | 0, left, h => h
  | f + 1, left, h => by
    unfold unitsN at h
    cases hr : roundP cs left with
    | none => rw [hr] at h; simp at h
    | some l =>
      rw [hr] at h
      simp only at h
      split at h
      · exact h
      · exact round_bit i cs left l hr (unitsN_bit cs i f l h)
theorem units_bit (vs : List MVar) (cs : List Nat) (p i : Nat) (h : (unitsP vs cs p).testBit i = true) : p.testBit i = true := by
  unfold unitsP at h
  split at h
  · simp at h
  · exact unitsN_bit cs i _ _ h

/-- Points are of a constraint's variables alone. -/
theorem points_scope (vs : List MVar) (hv : VarsOk vs) (c : MCon) : ∀ (r u : List Int) (a p : Nat), p ∈ pointsN vs c r u a → ∀ i, p.testBit i = true → a.testBit i = true ∨ ∃ v ∈ r, i / 6 = v.toNat
  | [], u, a, p, hp => by
    intro i hi
    unfold pointsN at hp
    split at hp
    · rw [List.mem_singleton.1 hp] at hi; exact Or.inl hi
    · cases hp
  | v :: r, u, a, p, hp => by
    intro i hi
    unfold pointsN at hp
    obtain ⟨x, hx, hp⟩ := List.mem_flatMap.1 hp
    rcases points_scope vs hv c r _ _ p hp i hi with h | ⟨w, hw, he⟩
    · rw [Nat.testBit_or, Bool.or_eq_true, testBit_pow] at h
      rcases h with h | h
      · exact Or.inl h
      · right
        refine ⟨v, List.mem_cons_self .., ?_⟩
        have h1 : 6 * v.toNat + (x - (varAt vs v.toNat).lo).toNat = i := by simpa using h
        obtain ⟨b1, b2⟩ := (mem_span_iff _ _ _).1 hx
        have h6 := hv.2 v.toNat
        unfold sizeV at h6
        omega
    · exact Or.inr ⟨w, List.mem_cons_of_mem _ hw, he⟩
/-- The point of values. -/
theorem point_of (vs : List MVar) (hv : VarsOk vs) (c : MCon) (hsc : ∀ v ∈ scopeC c, 0 ≤ v ∧ v < (vs.length : Int)) (hl : c.kind = 10 → c.lits ≠ []) (vals : List Int) (hm : MayBe vs vals) (hh : holdsC c vals = true) :
    ∃ p ∈ pointsP vs c, (∀ i, p.testBit i = true → ∃ v : Nat, v < vs.length ∧ i = posV vs vals v) ∧ ∀ v ∈ scopeC c, p.testBit (posV vs vals v.toNat) = true := by
  obtain ⟨p, hp, hb⟩ := points_have vs c vals hm (scopeC c) (zerosOf vs.length) 0 hsc (by simp [zerosOf]) (fun u' _ h2 _ => by rw [holds_scope c u' vals h2 hl]; exact hh)
  have hb' : ∀ i, p.testBit i = true → ∃ v : Nat, v < vs.length ∧ i = posV vs vals v := fun i hi => by
    rcases hb i hi with h | h
    · simp at h
    · exact h
  refine ⟨p, hp, hb', fun v hvs => ?_⟩
  obtain ⟨u, l1, l2, l3, l4, _, l6⟩ := points_back vs c _ _ _ p hsc (by simp [zerosOf]) hp
  have h1 := l6 v hvs
  obtain ⟨v', hv', he⟩ := hb' _ h1
  have h6 := hv.2 v.toNat
  have h3 := l3 v hvs
  have h7 := (pos_parts vs hv vals hm v' hv').1
  have h8 := hsc v hvs
  unfold sizeV at h6
  have : v' = v.toNat := by omega
  rw [he, this] at h1
  exact h1
/-- NO VALUES OF WHICH THE CONSTRAINT HOLDS ARE LOST. -/
theorem left_keeps (vs : List MVar) (hv : VarsOk vs) (c : MCon) (hsc : ∀ v ∈ scopeC c, 0 ≤ v ∧ v < (vs.length : Int)) (hl : c.kind = 10 → c.lits ≠ []) (vals : List Int) (hm : MayBe vs vals) (hh : holdsC c vals = true) (p : Nat) (hp36 : p < 2 ^ 36) (hw : Within vs vals p) :
    Within vs vals (leftP (pointsP vs c) p) := by
  obtain ⟨q, hq, h1, h2⟩ := point_of vs hv c hsc hl vals hm hh
  have hz : lessN q p = 0 := (less_zero _ _).2 fun i hi => by
    obtain ⟨v, hvl, rfl⟩ := h1 i hi
    exact hw v hvl
  have hf := (leftF_found p (pointsP vs c) (0, 0, false)).2 (Or.inr ⟨q, hq, hz⟩)
  intro v hvl
  unfold leftP
  rw [if_pos hf, Nat.testBit_or, Bool.or_eq_true]
  by_cases hs : (v : Int) ∈ scopeC c
  · right
    refine (leftF_stay p _ _ _).2 (Or.inr ⟨q, hq, hz, ?_⟩)
    have := h2 _ hs
    rwa [Int.toNat_natCast] at this
  · left
    refine (clr_bit _ _ _ _ (Nat.lt_succ_self _) (left_scope_lt _ _ hp36)).2 ⟨hw v hvl, fun j hj he => ?_⟩
    rw [(pos_parts vs hv vals hm v hvl).1] at he
    rcases leftF_scope p (pointsP vs c) (0, 0, false) with h3 | h3
    · rw [h3] at hj; simp at hj
    · rcases points_scope vs hv c _ _ _ _ h3.1 j hj with h4 | ⟨w, hw2, h4⟩
      · simp at h4
      · have := hsc w hw2
        refine hs ?_
        rw [show (v : Int) = w by omega]
        exact hw2

/-- What all constraints leave, one after the other, while something is left. -/
def consN : List (List Nat) → Nat → Nat
  | [], l => l
  | pts :: r, l => if l = 0 then l else consN r (leftP pts l)
/-- Who is told: which constraint, of what was there ahead, of what it leaves. -/
def consT : Nat → List (List Nat) → Nat → List (Nat × Nat × Nat)
  | _, [], _ => []
  | k, pts :: r, l => if l = 0 then [] else (if leftP pts l = l then [] else [(k, l, leftP pts l)]) ++ consT (k + 1) r (leftP pts l)
def narrowN (vs : List MVar) (cs : List Nat) (pt : List (List Nat)) : Nat → Nat → Nat
  | 0, l => l
  | f + 1, l => if consN pt (unitsP vs cs l) = l then l else narrowN vs cs pt f (consN pt (unitsP vs cs l))
def narrowT (vs : List MVar) (cs : List Nat) (pt : List (List Nat)) : Nat → Nat → List (Nat × Nat × Nat)
  | 0, _ => []
  | f + 1, l => consT 0 pt (unitsP vs cs l) ++ if consN pt (unitsP vs cs l) = l then [] else narrowT vs cs pt f (consN pt (unitsP vs cs l))
/-- What all rules leave of the values that are not held. -/
def narrowP (vs : List MVar) (cs : List Nat) (pt : List (List Nat)) (h : Nat) : Nat :=
  if lessN (wholeP vs) h = 0 then 0 else narrowN vs cs pt (lessN (wholeP vs) h + 1) (lessN (wholeP vs) h)
def tellsP (vs : List MVar) (cs : List Nat) (pt : List (List Nat)) (h : Nat) : List (Nat × Nat × Nat) :=
  if lessN (wholeP vs) h = 0 then [] else narrowT vs cs pt (lessN (wholeP vs) h + 1) (lessN (wholeP vs) h)

theorem consN_le : ∀ (pt : List (List Nat)) (l : Nat), l < 2 ^ 36 → consN pt l ≤ l
  | [], l, _ => Nat.le_refl _
  | pts :: r, l, h => by
    unfold consN
    split
    · exact Nat.le_refl _
    · have h1 := left_le pts l h
      exact Nat.le_trans (consN_le r _ (by omega)) h1
theorem narrow_le (vs : List MVar) (cs : List Nat) (pt : List (List Nat)) (l : Nat) (h : l < 2 ^ 36) : consN pt (unitsP vs cs l) ≤ l := by
  have h1 := units_le vs cs l
  exact Nat.le_trans (consN_le pt _ (by omega)) h1
theorem narrow_fuel (vs : List MVar) (cs : List Nat) (pt : List (List Nat)) : ∀ (f g l : Nat), l < f → l < g → l < 2 ^ 36 → narrowN vs cs pt f l = narrowN vs cs pt g l ∧ narrowT vs cs pt f l = narrowT vs cs pt g l
  | 0, g, l, hf, hg, _ => by omega
  | f + 1, 0, l, hf, hg, _ => by omega
  | f + 1, g + 1, l, hf, hg, h => by
    unfold narrowN narrowT
    split
    · exact ⟨rfl, rfl⟩
    · have := narrow_le vs cs pt l h
      obtain ⟨h1, h2⟩ := narrow_fuel vs cs pt f g (consN pt (unitsP vs cs l)) (by omega) (by omega) (by omega)
      exact ⟨h1, by rw [h2]⟩
theorem narrow_step (vs : List MVar) (cs : List Nat) (pt : List (List Nat)) (l : Nat) (h : l < 2 ^ 36) :
    narrowN vs cs pt (l + 1) l = (if consN pt (unitsP vs cs l) = l then l else narrowN vs cs pt (consN pt (unitsP vs cs l) + 1) (consN pt (unitsP vs cs l))) ∧
    narrowT vs cs pt (l + 1) l = consT 0 pt (unitsP vs cs l) ++ if consN pt (unitsP vs cs l) = l then [] else narrowT vs cs pt (consN pt (unitsP vs cs l) + 1) (consN pt (unitsP vs cs l)) := by
  by_cases he : consN pt (unitsP vs cs l) = l
  · constructor
    · conv => lhs; unfold narrowN
      rw [if_pos he, if_pos he]
    · conv => lhs; unfold narrowT
      rw [if_pos he, if_pos he]
  · have := narrow_le vs cs pt l h
    obtain ⟨h1, h2⟩ := narrow_fuel vs cs pt l (consN pt (unitsP vs cs l) + 1) (consN pt (unitsP vs cs l)) (by omega) (by omega) (by omega)
    constructor
    · conv => lhs; unfold narrowN
      rw [if_neg he, if_neg he, h1]
    · conv => lhs; unfold narrowT
      rw [if_neg he, if_neg he, h2]
theorem consN_keeps (vs : List MVar) (hv : VarsOk vs) (h1 : 1 ≤ vs.length) (vals : List Int) (hm : MayBe vs vals) : ∀ (pt : List (List Nat)) (l : Nat), l < 2 ^ 36 → (∀ pts ∈ pt, ∀ p, p < 2 ^ 36 → Within vs vals p → Within vs vals (leftP pts p)) → Within vs vals l → Within vs vals (consN pt l)
  | [], l, _, _, hw => hw
  | pts :: r, l, h, hk, hw => by
    unfold consN
    rw [if_neg (within_ne vs h1 vals l hw)]
    have := left_le pts l h
    exact consN_keeps vs hv h1 vals hm r _ (by omega) (fun q hq => hk q (List.mem_cons_of_mem _ hq)) (hk pts (List.mem_cons_self ..) l h hw)
theorem narrowN_keeps (vs : List MVar) (hv : VarsOk vs) (h1 : 1 ≤ vs.length) (vals : List Int) (hm : MayBe vs vals) (cs : List Nat) (hc : ∀ c ∈ cs, Hits vs vals c) (pt : List (List Nat)) (hk : ∀ pts ∈ pt, ∀ p, p < 2 ^ 36 → Within vs vals p → Within vs vals (leftP pts p)) :
    ∀ (f l : Nat), l < 2 ^ 36 → Within vs vals l → Within vs vals (narrowN vs cs pt f l)
  | 0, l, _, hw => hw
  | f + 1, l, h, hw => by
    unfold narrowN
    split
    · exact hw
    · have h2 := units_le vs cs l
      have h3 := narrow_le vs cs pt l h
      exact narrowN_keeps vs hv h1 vals hm cs hc pt hk f _ (by omega) (consN_keeps vs hv h1 vals hm pt _ (by omega) hk (units_keeps vs hv vals hm cs hc l hw))
theorem whole_lt (vs : List MVar) (hv : VarsOk vs) : wholeP vs < 2 ^ 36 := of_lt vs hv _
/-- WHERE NOTHING IS LEFT, VALUES OF WHICH ALL RULES HOLD ARE HELD. -/
theorem narrow_hits (vs : List MVar) (hv : VarsOk vs) (h1 : 1 ≤ vs.length) (vals : List Int) (hm : MayBe vs vals) (cs : List Nat) (hc : ∀ c ∈ cs, Hits vs vals c) (pt : List (List Nat)) (hk : ∀ pts ∈ pt, ∀ p, p < 2 ^ 36 → Within vs vals p → Within vs vals (leftP pts p))
    (h : Nat) (hz : narrowP vs cs pt h = 0) : Hits vs vals h := by
  apply Classical.byContradiction
  intro hn
  have hw := within_rest vs hv vals hm h hn
  unfold narrowP at hz
  rw [if_neg (within_ne vs h1 vals _ hw)] at hz
  exact within_ne vs h1 vals _ (narrowN_keeps vs hv h1 vals hm cs hc pt hk _ _ (less_lt 36 _ _ (whole_lt vs hv)) hw) hz

theorem count_parts (f g : Nat → Bool) (h : ∀ i, g i = true → f i = true) : ∀ l : List Nat, (l.filter f).length = (l.filter g).length + (l.filter fun i => f i && !g i).length
  | [] => rfl
  | a :: r => by
    have ih := count_parts f g h r
    rw [List.filter_cons, List.filter_cons, List.filter_cons]
    cases hf : f a <;> cases hg : g a
    · simpa using ih
    · rw [h a hg] at hf; cases hf
    · simp; omega
    · simp; omega
/-- How many values there are. -/
def bitsN (p : Nat) : Nat := (bitsL p).length
theorem bits_le (p : Nat) : bitsN p ≤ 36 := by
  unfold bitsN bitsL
  exact Nat.le_trans (List.length_filter_le _ _) (by simp)
theorem bits_sub (a b : Nat) (h : ∀ i, a.testBit i = true → b.testBit i = true) : bitsN a ≤ bitsN b := by
  unfold bitsN bitsL
  rw [count_parts (fun i => b.testBit i) (fun i => a.testBit i) h]
  omega
theorem bits_less (a b : Nat) (hb : b < 2 ^ 36) (h : ∀ i, a.testBit i = true → b.testBit i = true) (hne : a ≠ b) : bitsN a + 1 ≤ bitsN b := by
  unfold bitsN bitsL
  rw [count_parts (fun i => b.testBit i) (fun i => a.testBit i) h]
  have : ((List.range 36).filter fun i => b.testBit i && !a.testBit i) ≠ [] := fun hn => by
    refine hne (Nat.eq_of_testBit_eq fun i => ?_)
    by_cases hi : i < 36
    · have := List.filter_eq_nil_iff.1 hn i (List.mem_range.2 hi)
      cases ha : a.testBit i <;> cases hbb : b.testBit i
      · rfl
      · rw [ha, hbb] at this; simp at this
      · rw [h i ha] at hbb; cases hbb
      · rfl
    · have h1 : b.testBit i = false := Nat.testBit_lt_two_pow (Nat.lt_of_lt_of_le hb (Nat.pow_le_pow_right (by omega) (by omega)))
      cases ha : a.testBit i
      · exact h1.symm
      · rw [h i ha] at h1; cases h1
  have := List.length_pos_iff.2 this
  omega
/-- The least of a list that is enough, from its end on. -/
def leastL {α : Type} (enough : List α → Bool) : Nat → List α → List α
  | 0, out => out
  | k + 1, out => leastL enough k (if enough (out.eraseIdx k) then out.eraseIdx k else out)
theorem least_enough {α : Type} (enough : List α → Bool) : ∀ (k : Nat) (out : List α), enough out = true → enough (leastL enough k out) = true
  | 0, out, h => h
  | k + 1, out, h => by
    unfold leastL
    apply least_enough
    split
    · assumption
    · exact h
theorem least_mem {α : Type} (enough : List α → Bool) (x : α) : ∀ (k : Nat) (out : List α), x ∈ leastL enough k out → x ∈ out
  | 0, out, h => h
  | k + 1, out, h => by
    unfold leastL at h
    have := least_mem enough x k _ h
    split at this
    · exact List.mem_of_mem_eraseIdx this
    · exact this
theorem least_len {α : Type} (enough : List α → Bool) : ∀ (k : Nat) (out : List α), (leastL enough k out).length ≤ out.length
  | 0, out => Nat.le_refl _
  | k + 1, out => by
    unfold leastL
    refine Nat.le_trans (least_len enough k _) ?_
    split
    · exact List.length_eraseIdx_le ..
    · exact Nat.le_refl _

/-- Why a constraint says so. -/
def whyP (vs : List MVar) (pts : List Nat) (any : Cla) (gone : Nat) : Cla := any ++ litsP vs (spareP (fun g => saysP vs pts (heldP vs any ||| g)) (gone + 1) gone gone)
theorem reason_why (vs : List MVar) (c : MCon) (s : Sto) (any : Cla) : reasonP vs c s any = whyP vs (pointsP vs c) any (goneP vs s) := rfl
/-- A reason: a step, and what its clause holds of. -/
def reasonOf (vs : List MVar) (con : Nat) (c : Cla) : MStep × Nat := (⟨1, (con : Int), c⟩, heldP vs c)
def reasonsT (vs : List MVar) (pt : List (List Nat)) (t : Nat × Nat × Nat) : List (MStep × Nat) :=
  if t.2.2 = 0 then [reasonOf vs t.1 (whyP vs (pt.getD t.1 []) [] (lessN (wholeP vs) t.2.1))]
  else (litsP vs (lessN t.2.1 t.2.2)).map fun l => reasonOf vs t.1 (whyP vs (pt.getD t.1 []) [⟨l.var, 4, l.n⟩] (lessN (wholeP vs) t.2.1))
def reasonsP (vs : List MVar) (cs : List Nat) (pt : List (List Nat)) (h : Nat) : List (MStep × Nat) := (tellsP vs cs pt h).flatMap (reasonsT vs pt)
def enoughP (vs : List MVar) (cs : List Nat) (h : Nat) (some : List (MStep × Nat)) : Bool := failsP vs (cs ++ some.map (·.2)) h
def stepsA (vs : List MVar) (cs : List Nat) (pt : List (List Nat)) (c : Cla) : List MStep :=
  (leastL (enoughP vs cs (heldP vs c)) (reasonsP vs cs pt (heldP vs c)).length (reasonsP vs cs pt (heldP vs c))).map (·.1) ++ [⟨2, 0, c⟩]
def nothingP (vs : List MVar) (cs : List Nat) (pt : List (List Nat)) (c : Cla) : Bool := narrowP vs cs pt (heldP vs c) == 0
def leastC (vs : List MVar) (cs : List Nat) (pt : List (List Nat)) (c : Cla) : Cla := leastL (nothingP vs cs pt) c.length c
/-- All constraints' points. -/
def ptsM (m : Mod) : List (List Nat) := m.cons.map (pointsP m.vars)
theorem ptsM_keeps (m : Mod) (hm : checkM m = 0) (vals : List Int) (hv : MayBe m.vars vals) (hc : ∀ c ∈ m.cons, holdsC c vals = true) : ∀ pts ∈ ptsM m, ∀ p, p < 2 ^ 36 → Within m.vars vals p → Within m.vars vals (leftP pts p) := by
  intro pts hp p h36 hw
  obtain ⟨c, hcm, rfl⟩ := List.mem_map.1 hp
  obtain ⟨j, hj, he⟩ := List.getElem_of_mem hcm
  obtain ⟨k1, k2⟩ := scope_in m hm j c (by rw [List.getElem?_eq_getElem hj, he])
  exact left_keeps m.vars (vars_okP m hm) c k1 k2 vals hv (hc c hcm) p h36 hw
/-- WHAT IS LEARNED HOLDS. -/
theorem learned_holds (m : Mod) (hm : checkM m = 0) (vals : List Int) (hv : MayBe m.vars vals) (hc : ∀ c ∈ m.cons, holdsC c vals = true) (cs : List Nat) (hh : ∀ c ∈ cs, Hits m.vars vals c) (c : Cla) (hz : nothingP m.vars cs (ptsM m) c = true) : Hits m.vars vals (heldP m.vars c) := by
  unfold nothingP at hz
  exact narrow_hits m.vars (vars_okP m hm) (vars_one m hm) vals hv cs hh (ptsM m) (ptsM_keeps m hm vals hv hc) _ (by simpa using hz)
end Go.Proofs.YtdjbejlbmaiocagGreatDoor
/-
  PLAIN: a searcher: what is left, as a store; the variable with the fewest values; turning back; the next verdict.
-/
namespace Go.Proofs.YtdjbejlbmaiocagGreatDoor

/-- A store of literals: each one's number at the end of its variable's row. -/
def storeF : Cla → Sto → Sto
  | [], s => s
  | l :: r, s => storeF r (s.set l.var.toNat (s.getD l.var.toNat [] ++ [l.n]))
def storeP (vs : List MVar) (p : Nat) : Sto := storeF (litsP vs p) (List.replicate vs.length [])
/-- Which variable has the fewest values, but more than one? -/
def fewF (s : Sto) : Nat → List (List Int) → Int → Int
  | _, [], b => b
  | v, x :: r, b => fewF s (v + 1) r (if 1 < x.length ∧ (b < 0 ∨ x.length < (s.getD b.toNat []).length) then (v : Int) else b)
def fewestP (s : Sto) : Int := fewF s 0 s (-1)
/-- Where a literal stands. -/
def sameL (x l : MLit) : Bool := decide (x.var = l.var) && (decide (x.op = l.op) && decide (x.n = l.n))
def idxL (l : MLit) : Cla → Nat
  | [] => 0
  | x :: r => if sameL l x then 0 else idxL l r + 1
/-- A searcher. -/
structure Sk where
  cs : List Nat
  fuel : Nat
  proof : List MStep
  path : Cla
def proveF (vs : List MVar) : List MStep → List MStep → List MStep
  | [], p => p
  | t :: r, p => proveF vs r (if (p.map fun x => heldP vs x.cla).contains (heldP vs t.cla) then p else p ++ [t])
def lastL (c : Cla) : MLit := c.getD (c.length - 1) noLit
def turnP (vs : List MVar) (pt : List (List Nat)) (s : Sk) : Int × Sk :=
  if s.fuel = 0 then (3, s)
  else if 6000 < (proveF vs (stepsA vs s.cs pt (leastC vs s.cs pt s.path)) s.proof).length then (3, ⟨s.cs, s.fuel - 1, proveF vs (stepsA vs s.cs pt (leastC vs s.cs pt s.path)) s.proof, s.path⟩)
  else if (leastC vs s.cs pt s.path).length = 0 then (2, ⟨s.cs, s.fuel - 1, proveF vs (stepsA vs s.cs pt (leastC vs s.cs pt s.path)) s.proof, s.path⟩)
  else (0, ⟨s.cs ++ [heldP vs (leastC vs s.cs pt s.path)], s.fuel - 1, proveF vs (stepsA vs s.cs pt (leastC vs s.cs pt s.path)) s.proof, s.path.take (idxL (lastL (leastC vs s.cs pt s.path)) s.path)⟩)
def leftSk (vs : List MVar) (pt : List (List Nat)) (s : Sk) : Nat := narrowP vs s.cs pt (heldP vs s.path)
def pickL (st : Sto) : MLit := ⟨fewestP st, 4, (st.getD (fewestP st).toNat []).getD 0 0⟩
def decSk (st : Sto) (s : Sk) : Sk := ⟨s.cs, s.fuel, s.proof, s.path ++ [pickL st]⟩
def nextN (vs : List MVar) (pt : List (List Nat)) : Nat → Sk → Int × List Int × Sk
  | 0, s => (0, [], s)
  | n + 1, s =>
    if leftSk vs pt s = 0 then
      (if (turnP vs pt s).1 = 0 then nextN vs pt n (turnP vs pt s).2 else ((turnP vs pt s).1, [], (turnP vs pt s).2))
    else if fewestP (storeP vs (leftSk vs pt s)) < 0 then (1, (storeP vs (leftSk vs pt s)).flatten, s)
    else nextN vs pt n (decSk (storeP vs (leftSk vs pt s)) s)
/-- How much is open: of fuel, and of values. -/
def openB (vs : List MVar) (c : Cla) : Nat := bitsN (lessN (wholeP vs) (heldP vs c))
def openSk (vs : List MVar) (s : Sk) : Nat := s.fuel * 40 + openB vs s.path
def nextP (vs : List MVar) (pt : List (List Nat)) (s : Sk) : Int × List Int × Sk := nextN vs pt (openSk vs s + 1) s

theorem storeF_len : ∀ (c : Cla) (s : Sto), (storeF c s).length = s.length
  | [], s => rfl
  | l :: r, s => by unfold storeF; rw [storeF_len r]; simp
theorem storeP_len (vs : List MVar) (p : Nat) : (storeP vs p).length = vs.length := by unfold storeP; rw [storeF_len]; simp
theorem storeF_row (v : Nat) : ∀ (c : Cla) (s : Sto), v < s.length → (storeF c s).getD v [] = s.getD v [] ++ (c.filter fun l => l.var.toNat == v).map (·.n)
  | [], s, _ => by simp [storeF]
  | l :: r, s, h => by
    unfold storeF
    rw [storeF_row v r _ (by simpa using h)]
    by_cases he : l.var.toNat = v
    · subst he
      rw [List.filter_cons]
      simp [List.getD_eq_getElem?_getD, h]
    · rw [List.filter_cons]
      simp [List.getD_eq_getElem?_getD, he]
theorem storeP_row (vs : List MVar) (p v : Nat) (h : v < vs.length) : (storeP vs p).getD v [] = ((bitsL p).filter fun i => i / 6 == v).map fun i => (varAt vs v).lo + ((i % 6 : Nat) : Int) := by
  unfold storeP
  rw [storeF_row v _ _ (by simpa using h)]
  unfold litsP
  rw [List.filter_map, List.map_map]
  have : (List.replicate vs.length ([] : List Int)).getD v [] = [] := by simp [List.getD_eq_getElem?_getD, h]
  rw [this, List.nil_append]
  have e : ((fun l : MLit => l.var.toNat == v) ∘ fun i : Nat => (⟨((i / 6 : Nat) : Int), 3, (varAt vs (i / 6)).lo + ((i % 6 : Nat) : Int)⟩ : MLit)) = fun i : Nat => i / 6 == v := by
    funext i
    show ((((i / 6 : Nat) : Int)).toNat == v) = _
    rw [Int.toNat_natCast]
  rw [e]
  apply List.map_congr_left
  intro i hi
  have := (List.mem_filter.1 hi).2
  have : i / 6 = v := by simpa using this
  simp [this]
theorem bitsL_nodup (p : Nat) : (bitsL p).Nodup := by
  unfold bitsL
  exact List.Pairwise.filter _ List.nodup_range
theorem storeP_nodup (vs : List MVar) (p v : Nat) (h : v < vs.length) : ((storeP vs p).getD v []).Nodup := by
  rw [storeP_row vs p v h]
  have hn := List.Pairwise.filter (fun i => i / 6 == v) (bitsL_nodup p)
  refine List.Pairwise.map _ (fun a b hab => ?_) (List.Pairwise.imp_of_mem ?_ hn (S := fun a b : Nat => a ≠ b ∧ a / 6 = v ∧ b / 6 = v))
  · intro he
    have : a % 6 = b % 6 := by omega
    have := hab
    omega
  · intro a b ha hb hab
    exact ⟨hab, by simpa using (List.mem_filter.1 ha).2, by simpa using (List.mem_filter.1 hb).2⟩
theorem mem_storeP (vs : List MVar) (p v : Nat) (h : v < vs.length) (x : Int) : x ∈ (storeP vs p).getD v [] ↔ ∃ i, i < 36 ∧ p.testBit i = true ∧ i / 6 = v ∧ x = (varAt vs v).lo + ((i % 6 : Nat) : Int) := by
  rw [storeP_row vs p v h, List.mem_map]
  constructor
  · rintro ⟨i, hi, rfl⟩
    obtain ⟨h1, h2⟩ := List.mem_filter.1 hi
    unfold bitsL at h1
    obtain ⟨h3, h4⟩ := List.mem_filter.1 h1
    exact ⟨i, List.mem_range.1 h3, h4, by simpa using h2, rfl⟩
  · rintro ⟨i, h1, h2, h3, rfl⟩
    exact ⟨i, List.mem_filter.2 ⟨(mem_bits p i h1).2 h2, by simpa using h3⟩, rfl⟩

theorem fewF_spec (s : Sto) : ∀ (r : List (List Int)) (v : Nat) (b : Int), v + r.length = s.length → (∀ k, r[k]? = s[v + k]?) → (b < 0 ∨ (0 ≤ b ∧ b < (s.length : Int) ∧ 1 < (s.getD b.toNat []).length)) →
    (fewF s v r b < 0 → b < 0 ∧ ∀ x ∈ r, x.length ≤ 1) ∧ (¬ fewF s v r b < 0 → fewF s v r b < (s.length : Int) ∧ 1 < (s.getD (fewF s v r b).toNat []).length)
  | [], v, b, hl, hr, hb => by
    unfold fewF
    refine ⟨fun h => ⟨h, fun x hx => by cases hx⟩, fun h => ?_⟩
    rcases hb with hb | hb
    · exact absurd hb h
    · exact ⟨hb.2.1, hb.2.2⟩
  | x :: r, v, b, hl, hr, hb => by
    unfold fewF
    have hx : s[v]? = some x := by have := hr 0; simpa using this.symm
    have hg : s.getD v [] = x := by rw [List.getD_eq_getElem?_getD, hx]; rfl
    have hl' : v + 1 + r.length = s.length := by rw [List.length_cons] at hl; omega
    have hr' : ∀ k, r[k]? = s[v + 1 + k]? := fun k => by
      have := hr (k + 1)
      rw [List.getElem?_cons_succ] at this
      rw [this]; congr 1; omega
    by_cases hc : 1 < x.length ∧ (b < 0 ∨ x.length < (s.getD b.toNat []).length)
    · rw [if_pos hc]
      obtain ⟨h1, h2⟩ := fewF_spec s r (v + 1) (v : Int) hl' hr' (Or.inr ⟨by omega, by rw [List.length_cons] at hl; omega, by rw [Int.toNat_natCast, hg]; exact hc.1⟩)
      refine ⟨fun h => ?_, h2⟩
      have := (h1 h).1
      omega
    · rw [if_neg hc]
      obtain ⟨h1, h2⟩ := fewF_spec s r (v + 1) b hl' hr' hb
      refine ⟨fun h => ?_, h2⟩
      obtain ⟨h3, h4⟩ := h1 h
      refine ⟨h3, fun y hy => ?_⟩
      rcases List.mem_cons.1 hy with rfl | hy
      · apply Classical.byContradiction
        intro hn
        exact hc ⟨by omega, Or.inl h3⟩
      · exact h4 y hy
theorem fewest_none (s : Sto) (h : fewestP s < 0) : ∀ x ∈ s, x.length ≤ 1 :=
  ((fewF_spec s s 0 (-1) (by omega) (fun k => by rw [Nat.zero_add]) (Or.inl (by omega))).1 h).2
theorem fewest_some (s : Sto) (h : ¬ fewestP s < 0) : fewestP s < (s.length : Int) ∧ 1 < (s.getD (fewestP s).toNat []).length :=
  (fewF_spec s s 0 (-1) (by omega) (fun k => by rw [Nat.zero_add]) (Or.inl (by omega))).2 h

theorem heldP_append (vs : List MVar) (hv : VarsOk vs) (a b : Cla) (i : Nat) : (heldP vs (a ++ b)).testBit i = ((heldP vs a).testBit i || (heldP vs b).testBit i) := by
  unfold heldP ofP
  rw [testBit_of vs hv, testBit_of vs hv, testBit_of vs hv]
  unfold oneB
  rw [List.any_append]
  cases decide (i / 6 < vs.length) <;> cases decide (i % 6 < sizeV (varAt vs (i / 6))) <;> simp
theorem narrowN_bit (vs : List MVar) (cs : List Nat) (pt : List (List Nat)) (i : Nat) : ∀ (f l : Nat), l < 2 ^ 36 → (narrowN vs cs pt f l).testBit i = true → l.testBit i = true
  | 0, l, _, h => h
  | f + 1, l, hl, h => by
    unfold narrowN at h
    split at h
    · exact h
    · have h1 := narrow_le vs cs pt l hl
      have h2 := narrowN_bit vs cs pt i f _ (by omega) h
      have h3 := units_le vs cs l
      refine units_bit vs cs l i ?_
      have : ∀ (pt : List (List Nat)) (q : Nat), q < 2 ^ 36 → (consN pt q).testBit i = true → q.testBit i = true := by
        intro pt
        induction pt with
        | nil => intro q _ h; exact h
        | cons pts r ih =>
          intro q hq h
          unfold consN at h
          split at h
          · exact h
          · have := left_le pts q hq
            exact left_bit pts q i hq (ih _ (by omega) h)
      exact this pt _ (by omega) h2
theorem narrow_sub (vs : List MVar) (hv : VarsOk vs) (cs : List Nat) (pt : List (List Nat)) (h i : Nat) (hi : (narrowP vs cs pt h).testBit i = true) : (wholeP vs).testBit i = true ∧ h.testBit i = false := by
  unfold narrowP at hi
  split at hi
  · simp at hi
  · have := narrowN_bit vs cs pt i _ _ (less_lt 36 _ _ (whole_lt vs hv)) hi
    rw [testBit_less, Bool.and_eq_true, Bool.not_eq_true'] at this
    exact this
theorem narrow_lt (vs : List MVar) (hv : VarsOk vs) (cs : List Nat) (pt : List (List Nat)) (h : Nat) : narrowP vs cs pt h < 2 ^ 36 := by
  refine Nat.lt_of_le_of_lt (Nat.le_of_testBit fun i hi => (narrow_sub vs hv cs pt h i hi).1) (whole_lt vs hv)
/-- A decision leaves less open. -/
theorem dec_less (vs : List MVar) (hv : VarsOk vs) (pt : List (List Nat)) (s : Sk) (h : ¬ fewestP (storeP vs (leftSk vs pt s)) < 0) : openB vs (decSk (storeP vs (leftSk vs pt s)) s).path + 1 ≤ openB vs s.path := by
  obtain ⟨h1, h2⟩ := fewest_some _ h
  obtain ⟨f, hf⟩ : ∃ f, fewestP (storeP vs (leftSk vs pt s)) = f := ⟨_, rfl⟩
  unfold decSk pickL
  rw [hf] at h h1 h2 ⊢
  rw [storeP_len] at h1
  obtain ⟨v, rfl⟩ : ∃ v : Nat, f = (v : Int) := ⟨f.toNat, by omega⟩
  rw [Int.toNat_natCast] at h2 ⊢
  have hvl : v < vs.length := by omega
  have hnd := storeP_nodup vs (leftSk vs pt s) v hvl
  obtain ⟨x, y, t, ht⟩ : ∃ x y t, (storeP vs (leftSk vs pt s)).getD v [] = x :: y :: t := by
    match hr : (storeP vs (leftSk vs pt s)).getD v [] with
    | [] => rw [hr] at h2; simp at h2
    | [x] => rw [hr] at h2; simp at h2
    | x :: y :: t => exact ⟨x, y, t, rfl⟩
  have hy : y ∈ (storeP vs (leftSk vs pt s)).getD v [] := by rw [ht]; simp
  have hxy : x ≠ y := by rw [ht] at hnd; simp at hnd; exact hnd.1.1
  obtain ⟨i, hi36, hib, hiv, rfl⟩ := (mem_storeP vs _ v hvl y).1 hy
  rw [ht]
  obtain ⟨hw, hn⟩ := narrow_sub vs hv _ _ _ i hib
  unfold openB
  refine bits_less _ _ (less_lt 36 _ _ (whole_lt vs hv)) (fun k hk => ?_) (fun he => ?_)
  · rw [testBit_less, Bool.and_eq_true, Bool.not_eq_true', heldP_append vs hv, Bool.or_eq_false_iff] at hk
    rw [testBit_less, hk.1, hk.2.1]; rfl
  · have h3 := congrArg (fun z => Nat.testBit z i) he
    simp only [testBit_less, heldP_append vs hv, hw, hn] at h3
    have h4 : (heldP vs [(⟨(v : Int), 4, x⟩ : MLit)]).testBit i = true := by
      unfold wholeP ofP at hw
      rw [testBit_of vs hv] at hw
      simp only [Bool.and_eq_true, decide_eq_true_eq] at hw
      unfold heldP ofP
      rw [testBit_of vs hv]
      simp only [Bool.and_eq_true, decide_eq_true_eq]
      refine ⟨hw.1, hw.2.1, ?_⟩
      unfold oneB
      simp only [List.any_cons, List.any_nil, Bool.or_false, Bool.and_eq_true, decide_eq_true_eq, hiv, true_and]
      unfold litV
      simpa using fun h => hxy h.symm
    simp [h4] at h3
theorem turn_fuel (vs : List MVar) (pt : List (List Nat)) (s : Sk) (h : (turnP vs pt s).1 = 0) : (turnP vs pt s).2.fuel + 1 = s.fuel := by
  unfold turnP at h ⊢
  split
  · rename_i hc; rw [if_pos hc] at h; cases h
  · rename_i h0
    rw [if_neg h0] at h
    split
    · rename_i hc; rw [if_pos hc] at h; cases h
    · rename_i h1
      rw [if_neg h1] at h
      split
      · rename_i hc; rw [if_pos hc] at h; cases h
      · show s.fuel - 1 + 1 = s.fuel
        omega
theorem turn_open (vs : List MVar) (pt : List (List Nat)) (s : Sk) (h : (turnP vs pt s).1 = 0) : openSk vs (turnP vs pt s).2 < openSk vs s := by
  have h1 := turn_fuel vs pt s h
  have h2 : openB vs (turnP vs pt s).2.path ≤ 36 := bits_le _
  unfold openSk
  omega
theorem dec_open (vs : List MVar) (hv : VarsOk vs) (pt : List (List Nat)) (s : Sk) (h : ¬ fewestP (storeP vs (leftSk vs pt s)) < 0) : openSk vs (decSk (storeP vs (leftSk vs pt s)) s) < openSk vs s := by
  have := dec_less vs hv pt s h
  unfold openSk
  show s.fuel * 40 + _ < _
  omega
theorem next_fuel (vs : List MVar) (hv : VarsOk vs) (pt : List (List Nat)) : ∀ (f g : Nat) (s : Sk), openSk vs s < f → openSk vs s < g → nextN vs pt f s = nextN vs pt g s
  | 0, g, s, hf, hg => by omega
  | f + 1, 0, s, hf, hg => by omega
  | f + 1, g + 1, s, hf, hg => by
    unfold nextN
    split
    · split
      · rename_i h
        have := turn_open vs pt s h
        exact next_fuel vs hv pt f g _ (by omega) (by omega)
      · rfl
    · split
      · rfl
      · rename_i h
        have := dec_open vs hv pt s h
        exact next_fuel vs hv pt f g _ (by omega) (by omega)
theorem next_step (vs : List MVar) (hv : VarsOk vs) (pt : List (List Nat)) (s : Sk) : nextP vs pt s =
    if leftSk vs pt s = 0 then (if (turnP vs pt s).1 = 0 then nextP vs pt (turnP vs pt s).2 else ((turnP vs pt s).1, [], (turnP vs pt s).2))
    else if fewestP (storeP vs (leftSk vs pt s)) < 0 then (1, (storeP vs (leftSk vs pt s)).flatten, s)
    else nextP vs pt (decSk (storeP vs (leftSk vs pt s)) s) := by
  conv => lhs; unfold nextP nextN
  split
  · split
    · rename_i h
      have := turn_open vs pt s h
      exact next_fuel vs hv pt _ _ _ (by omega) (by omega)
    · rfl
  · split
    · rfl
    · rename_i h
      have := dec_open vs hv pt s h
      exact next_fuel vs hv pt _ _ _ (by omega) (by omega)

/-- Paths grow with what they take. -/
def PathOk (vs : List MVar) (c : Cla) : Prop := ∀ k, k ≤ c.length → k + openB vs (c.take k) ≤ 36
theorem path_nil (vs : List MVar) : PathOk vs [] := fun k hk => by
  have : k = 0 := by simpa using hk
  subst this
  have := bits_le (lessN (wholeP vs) (heldP vs ([].take 0)))
  unfold openB
  omega
theorem path_len (vs : List MVar) (c : Cla) (h : PathOk vs c) : c.length ≤ 36 := by
  have := h c.length (Nat.le_refl _)
  omega
theorem path_take (vs : List MVar) (c : Cla) (h : PathOk vs c) (n : Nat) : PathOk vs (c.take n) := fun k hk => by
  rw [List.length_take] at hk
  rw [List.take_take, Nat.min_eq_left (by omega)]
  exact h k (by omega)
theorem path_dec (vs : List MVar) (hv : VarsOk vs) (pt : List (List Nat)) (s : Sk) (hp : PathOk vs s.path) (h : ¬ fewestP (storeP vs (leftSk vs pt s)) < 0) : PathOk vs (decSk (storeP vs (leftSk vs pt s)) s).path := fun k hk => by
  have h1 := dec_less vs hv pt s h
  unfold decSk at *
  simp only at *
  rw [List.length_append, List.length_singleton] at hk
  by_cases he : k ≤ s.path.length
  · rw [List.take_append_of_le_length he]
    exact hp k he
  · have : k = s.path.length + 1 := by omega
    subst this
    rw [List.take_of_length_le (by simp)]
    have := hp s.path.length (Nat.le_refl _)
    rw [List.take_length] at this
    omega
theorem same_eq (x l : MLit) : sameL x l = true ↔ x = l := by
  unfold sameL
  rw [Bool.and_eq_true, Bool.and_eq_true, decide_eq_true_eq, decide_eq_true_eq, decide_eq_true_eq]
  constructor
  · rintro ⟨h1, h2, h3⟩; cases x; cases l; simp_all
  · rintro rfl; exact ⟨rfl, rfl, rfl⟩
theorem idx_lt (l : MLit) : ∀ c : Cla, l ∈ c → idxL l c < c.length
  | [], h => by cases h
  | x :: r, h => by
    unfold idxL
    split
    · simp
    · rename_i hn
      rcases List.mem_cons.1 h with rfl | h
      · exact absurd ((same_eq l l).2 rfl) hn
      · have := idx_lt l r h
        rw [List.length_cons]; omega
theorem leastC_mem (vs : List MVar) (cs : List Nat) (pt : List (List Nat)) (c : Cla) (x : MLit) (h : x ∈ leastC vs cs pt c) : x ∈ c := least_mem _ x _ c h
theorem leastC_len (vs : List MVar) (cs : List Nat) (pt : List (List Nat)) (c : Cla) : (leastC vs cs pt c).length ≤ c.length := least_len _ _ c
theorem lastL_mem (c : Cla) (h : c.length ≠ 0) : lastL c ∈ c := by
  unfold lastL
  rw [List.getD_eq_getElem?_getD, List.getElem?_eq_getElem (by omega)]
  exact List.getElem_mem _
end Go.Proofs.YtdjbejlbmaiocagGreatDoor
/-
  PLAIN: what is found holds; where there is none, there is nothing: of a searcher, of whatever rules.
-/
namespace Go.Proofs.YtdjbejlbmaiocagGreatDoor

/-- Values that may be, of which all constraints hold. -/
def Sol (m : Mod) (x : List Int) : Prop := MayBe m.vars x ∧ ∀ c ∈ m.cons, holdsC c x = true
/-- All clauses of a searcher hold of what is looked for. -/
def Sound (m : Mod) (G : List Int → Prop) (S : Sk) : Prop := ∀ x, Sol m x → G x → ∀ c ∈ S.cs, Hits m.vars x c
theorem held_nil (vs : List MVar) (hv : VarsOk vs) (i : Nat) : (heldP vs []).testBit i = false := by
  unfold heldP ofP
  rw [testBit_of vs hv]
  simp [oneB]
theorem least_nothing (vs : List MVar) (cs : List Nat) (pt : List (List Nat)) (c : Cla) (h : nothingP vs cs pt c = true) : nothingP vs cs pt (leastC vs cs pt c) = true := least_enough _ _ c h
theorem turn_sound (m : Mod) (hm : checkM m = 0) (G : List Int → Prop) (S : Sk) (hs : Sound m G S) (hz : leftSk m.vars (ptsM m) S = 0) :
    Sound m G (turnP m.vars (ptsM m) S).2 ∧ ((turnP m.vars (ptsM m) S).1 = 2 → ∀ x, Sol m x → ¬ G x) := by
  have hn : nothingP m.vars S.cs (ptsM m) (leastC m.vars S.cs (ptsM m) S.path) = true := least_nothing _ _ _ _ (by unfold nothingP; unfold leftSk at hz; rw [hz]; rfl)
  have hl : ∀ x, Sol m x → G x → Hits m.vars x (heldP m.vars (leastC m.vars S.cs (ptsM m) S.path)) := fun x hx hg => learned_holds m hm x hx.1 hx.2 S.cs (hs x hx hg) _ hn
  unfold turnP
  split
  · exact ⟨hs, fun h => by cases h⟩
  · split
    · exact ⟨hs, fun h => by cases h⟩
    · split
      · rename_i hc
        refine ⟨hs, fun _ x hx hg => ?_⟩
        obtain ⟨v, _, hb⟩ := hl x hx hg
        rw [List.length_eq_zero_iff.1 hc, held_nil m.vars (vars_okP m hm)] at hb
        cases hb
      · refine ⟨fun x hx hg c hc => ?_, fun h => by cases h⟩
        rcases List.mem_append.1 hc with hc | hc
        · exact hs x hx hg c hc
        · rw [List.mem_singleton.1 hc]; exact hl x hx hg

/-- What is left is left again. -/
theorem narrowN_fix (vs : List MVar) (cs : List Nat) (pt : List (List Nat)) : ∀ (f l : Nat), l < f → l < 2 ^ 36 → consN pt (unitsP vs cs (narrowN vs cs pt f l)) = narrowN vs cs pt f l
  | 0, l, hf, _ => by omega
  | f + 1, l, hf, h => by
    unfold narrowN
    split
    · assumption
    · have := narrow_le vs cs pt l h
      exact narrowN_fix vs cs pt f _ (by omega) (by omega)
theorem narrow_fix (vs : List MVar) (hv : VarsOk vs) (cs : List Nat) (pt : List (List Nat)) (h : Nat) (hn : narrowP vs cs pt h ≠ 0) : consN pt (unitsP vs cs (narrowP vs cs pt h)) = narrowP vs cs pt h := by
  unfold narrowP at hn ⊢
  split
  · rename_i hc; rw [if_pos hc] at hn; exact absurd rfl hn
  · exact narrowN_fix vs cs pt _ _ (Nat.lt_succ_self _) (less_lt 36 _ _ (whole_lt vs hv))
theorem consN_fix : ∀ (pt : List (List Nat)) (l : Nat), l < 2 ^ 36 → l ≠ 0 → consN pt l = l → ∀ pts ∈ pt, leftP pts l = l
  | [], l, _, _, _ => fun pts hp => by cases hp
  | pts :: r, l, h, hn, he => by
    unfold consN at he
    rw [if_neg hn] at he
    have h1 := left_le pts l h
    have h2 := consN_le r (leftP pts l) (by omega)
    have h3 : leftP pts l = l := by omega
    rw [h3] at he
    intro q hq
    rcases List.mem_cons.1 hq with rfl | hq
    · exact h3
    · exact consN_fix r l h hn he q hq
theorem round_fix : ∀ (cs : List Nat) (l : Nat), roundP cs l = some l → ∀ c ∈ cs, l &&& c ≠ 0
  | [], l, _ => fun c hc => by cases hc
  | c :: r, l, h => by
    unfold roundP at h
    split at h
    · cases h
    · rename_i h0
      split at h
      · have h1 := round_le r _ l h
        have h2 := less_le l (lessN (fieldP (l &&& c)) (l &&& c))
        have h3 : lessN l (lessN (fieldP (l &&& c)) (l &&& c)) = l := by omega
        rw [h3] at h
        intro q hq
        rcases List.mem_cons.1 hq with rfl | hq
        · exact h0
        · exact round_fix r l h q hq
      · intro q hq
        rcases List.mem_cons.1 hq with rfl | hq
        · exact h0
        · exact round_fix r l h q hq
theorem units_fix (vs : List MVar) (cs : List Nat) (l : Nat) (hn : l ≠ 0) (h : unitsP vs cs l = l) : lackP vs.length l = false ∧ ∀ c ∈ cs, l &&& c ≠ 0 := by
  unfold unitsP at h
  split at h
  · exact absurd h.symm hn
  · rename_i hk
    refine ⟨by simpa using hk, ?_⟩
    rw [units_step] at h
    cases hr : roundP cs l with
    | none => rw [hr] at h; exact absurd h.symm hn
    | some l' =>
      rw [hr] at h
      simp only at h
      split at h
      · rename_i he
        rw [he] at hr
        exact round_fix cs l hr
      · have h1 := round_le cs l l' hr
        have h2 := unitsN_le cs (l' + 1) l'
        have h3 : l' ≠ l := by assumption
        exact absurd (by omega : l' = l) h3
theorem lack_bits (n p : Nat) (h : lackP n p = false) (v : Nat) (hv : v < n) : ∃ k, k < 6 ∧ p.testBit (6 * v + k) = true := by
  unfold lackP at h
  rw [List.any_eq_false] at h
  have h1 := h v (List.mem_range.2 hv)
  have h2 : p / 2 ^ (v * 6) &&& 63 ≠ 0 := by simpa using h1
  apply Classical.byContradiction
  intro hn
  apply h2
  apply Nat.eq_of_testBit_eq
  intro i
  rw [Nat.testBit_and, Nat.zero_testBit, testBit_63, Nat.testBit_div_two_pow]
  by_cases hi : i < 6
  · cases hb : p.testBit (i + v * 6)
    · rfl
    · exact absurd ⟨i, hi, by rw [show 6 * v + i = i + v * 6 by omega]; exact hb⟩ hn
  · simp [hi]
/-- One value each. -/
theorem found_bits (vs : List MVar) (hv : VarsOk vs) (l : Nat) (hw : ∀ i, l.testBit i = true → (wholeP vs).testBit i = true) (hk : lackP vs.length l = false) (hf : fewestP (storeP vs l) < 0) :
    MayBe vs (storeP vs l).flatten ∧ Within vs (storeP vs l).flatten l ∧ ∀ i, l.testBit i = true → ∃ v, v < vs.length ∧ i = posV vs (storeP vs l).flatten v := by
  have hlen := storeP_len vs l
  have hone : ∀ v, v < vs.length → ∃ x, (storeP vs l)[v]? = some [x] ∧ ∃ i, i < 36 ∧ l.testBit i = true ∧ i / 6 = v ∧ x = (varAt vs v).lo + ((i % 6 : Nat) : Int) := fun v hvl => by
    obtain ⟨k, hk6, hb⟩ := lack_bits vs.length l hk v hvl
    have hi36 : 6 * v + k < 36 := by have := hv.1; omega
    have hx : (varAt vs v).lo + ((k : Nat) : Int) ∈ (storeP vs l).getD v [] := (mem_storeP vs l v hvl _).2 ⟨6 * v + k, hi36, hb, by omega, by congr 2; omega⟩
    have hg : (storeP vs l)[v]? = some ((storeP vs l).getD v []) := by rw [List.getD_eq_getElem?_getD, List.getElem?_eq_getElem (by omega)]; rfl
    have h1 := fewest_none _ hf _ (List.mem_of_getElem? hg)
    match hr : (storeP vs l).getD v [] with
    | [] => rw [hr] at hx; cases hx
    | [x] =>
      rw [hr] at hg hx
      refine ⟨x, hg, 6 * v + k, hi36, hb, by omega, ?_⟩
      have h2 : (varAt vs v).lo + ((k : Nat) : Int) = x := by simpa using hx
      rw [← h2]
      congr 2; omega
    | x :: y :: t => rw [hr] at h1; simp at h1
  have hflat : ∀ (s : Sto), (∀ v : Nat, v < s.length → ∃ x : Int, s[v]? = some [x]) → s.flatten.length = s.length ∧ ∀ (v : Nat) (x : Int), s[v]? = some [x] → s.flatten[v]? = some x := by
    intro s
    induction s with
    | nil => intro _; exact ⟨rfl, fun v x h => by simp at h⟩
    | cons a r ih =>
      intro h
      obtain ⟨x, hx⟩ := h 0 (by simp)
      have ha : a = [x] := by simpa using hx
      subst ha
      obtain ⟨i1, i2⟩ := ih fun v hv => by
        obtain ⟨y, hy⟩ := h (v + 1) (by simp; omega)
        exact ⟨y, by simpa using hy⟩
      refine ⟨by simp [i1], fun v y hy => ?_⟩
      cases v with
      | zero => simpa using hy
      | succ v => simpa using i2 v y (by simpa using hy)
  obtain ⟨f1, f2⟩ := hflat (storeP vs l) fun v hvl => (hone v (by omega)).imp fun x hx => hx.1
  have hval : ∀ v, v < vs.length → ∃ i, i < 36 ∧ l.testBit i = true ∧ i / 6 = v ∧ valAt (storeP vs l).flatten (v : Int) = (varAt vs v).lo + ((i % 6 : Nat) : Int) := fun v hvl => by
    obtain ⟨x, h1, i, h2, h3, h4, h5⟩ := hone v hvl
    refine ⟨i, h2, h3, h4, ?_⟩
    unfold valAt
    rw [Int.toNat_natCast, List.getD_eq_getElem?_getD, f2 v x h1]
    exact h5
  have hsz : ∀ i, l.testBit i = true → i / 6 < vs.length ∧ i % 6 < sizeV (varAt vs (i / 6)) := fun i hi => by
    have := hw i hi
    unfold wholeP ofP at this
    rw [testBit_of vs hv] at this
    simp only [Bool.and_eq_true, decide_eq_true_eq] at this
    exact ⟨this.1, this.2.1⟩
  have hmb : MayBe vs (storeP vs l).flatten := ⟨by rw [f1, hlen], fun v hvl => by
    obtain ⟨i, _, h2, h3, h4⟩ := hval v hvl
    have := (hsz i h2).2
    rw [h3] at this
    unfold sizeV at this
    rw [h4]
    omega⟩
  have hpos : ∀ v, v < vs.length → ∃ i, l.testBit i = true ∧ i = posV vs (storeP vs l).flatten v := fun v hvl => by
    obtain ⟨i, _, h2, h3, h4⟩ := hval v hvl
    refine ⟨i, h2, ?_⟩
    unfold posV
    rw [h4]
    omega
  refine ⟨hmb, fun v hvl => ?_, fun i hi => ?_⟩
  · obtain ⟨i, h1, h2⟩ := hpos v hvl
    rw [← h2]; exact h1
  · refine ⟨i / 6, (hsz i hi).1, ?_⟩
    obtain ⟨x, h1, j, j1, j2, j3, j4⟩ := hone (i / 6) (hsz i hi).1
    have hx : (varAt vs (i / 6)).lo + ((i % 6 : Nat) : Int) ∈ (storeP vs l).getD (i / 6) [] := (mem_storeP vs l _ (hsz i hi).1 _).2 ⟨i, by have := (hsz i hi).1; have := hv.1; omega, hi, rfl, rfl⟩
    rw [List.getD_eq_getElem?_getD, h1] at hx
    have hxx : (varAt vs (i / 6)).lo + ((i % 6 : Nat) : Int) = x := by simpa using hx
    obtain ⟨k, _, k2⟩ := hpos (i / 6) (hsz i hi).1
    unfold posV
    unfold valAt
    rw [Int.toNat_natCast, List.getD_eq_getElem?_getD, f2 _ x h1]
    simp only [Option.getD_some]
    omega
theorem bit_of_ne {n : Nat} (h : n ≠ 0) : ∃ i, n.testBit i = true := by
  apply Classical.byContradiction
  intro hn
  apply h
  apply Nat.eq_of_testBit_eq
  intro i
  rw [Nat.zero_testBit]
  cases hb : n.testBit i
  · rfl
  · exact absurd ⟨i, hb⟩ hn
/-- WHAT IS FOUND HOLDS, and all clauses do. -/
theorem found_sound (m : Mod) (hm : checkM m = 0) (S : Sk) (hl : leftSk m.vars (ptsM m) S ≠ 0) (hf : fewestP (storeP m.vars (leftSk m.vars (ptsM m) S)) < 0) :
    Sol m (storeP m.vars (leftSk m.vars (ptsM m) S)).flatten ∧ ∀ c ∈ S.cs, Hits m.vars (storeP m.vars (leftSk m.vars (ptsM m) S)).flatten c := by
  have hv := vars_okP m hm
  have hfix := narrow_fix m.vars hv S.cs (ptsM m) (heldP m.vars S.path) hl
  have h36 := narrow_lt m.vars hv S.cs (ptsM m) (heldP m.vars S.path)
  have hsub : ∀ i, (leftSk m.vars (ptsM m) S).testBit i = true → (wholeP m.vars).testBit i = true := fun i hi => (narrow_sub m.vars hv _ _ _ i hi).1
  change consN (ptsM m) (unitsP m.vars S.cs (leftSk m.vars (ptsM m) S)) = leftSk m.vars (ptsM m) S at hfix
  change leftSk m.vars (ptsM m) S < 2 ^ 36 at h36
  generalize leftSk m.vars (ptsM m) S = l at *
  have h1 := units_le m.vars S.cs l
  have h2 := consN_le (ptsM m) (unitsP m.vars S.cs l) (by omega)
  have hu : unitsP m.vars S.cs l = l := by omega
  rw [hu] at hfix
  obtain ⟨hk, hcl⟩ := units_fix m.vars S.cs l hl hu
  obtain ⟨b1, b2, b3⟩ := found_bits m.vars hv l hsub hk hf
  generalize (storeP m.vars l).flatten = x at *
  refine ⟨⟨b1, fun c hc => ?_⟩, fun c hc => ?_⟩
  · have hp := consN_fix (ptsM m) l h36 hl hfix (pointsP m.vars c) (List.mem_map.2 ⟨c, hc, rfl⟩)
    obtain ⟨j, hj, he⟩ := List.getElem_of_mem hc
    obtain ⟨k1, k2⟩ := scope_in m hm j c (by rw [List.getElem?_eq_getElem hj, he])
    have hfd : (leftF l (pointsP m.vars c) (0, 0, false)).2.2 = true := by
      cases hq : (leftF l (pointsP m.vars c) (0, 0, false)).2.2
      · unfold leftP at hp
        rw [hq] at hp
        exact absurd hp.symm hl
      · rfl
    rcases (leftF_found l _ _).1 hfd with h | ⟨q, hq, hz⟩
    · cases h
    · obtain ⟨u, l1, l2, l3, _, _, l6⟩ := points_back m.vars c _ _ _ q k1 (by simp [zerosOf]) hq
      rw [← holds_scope c u x (fun v hvs => ?_) k2]
      · exact l2
      · have hb := (less_zero _ _).1 hz _ (l6 v hvs)
        obtain ⟨v', hv', hpos⟩ := b3 _ hb
        have hp1 := pos_parts m.vars hv x b1 v' hv'
        have h3 := l3 v hvs
        have h4 := k1 v hvs
        have h6 := hv.2 v.toNat
        unfold sizeV at h6
        rw [← hpos] at hp1
        have hvv : v' = v.toNat := by omega
        subst hvv
        rw [Int.toNat_of_nonneg h4.1] at hp1
        omega
  · have hne := hcl c hc
    obtain ⟨i, hi⟩ := bit_of_ne hne
    rw [Nat.testBit_and, Bool.and_eq_true] at hi
    obtain ⟨v, hvl, hpos⟩ := b3 i hi.1
    exact ⟨v, hvl, by rw [← hpos]; exact hi.2⟩
/-- WHAT IS ANSWERED NEXT: what is found holds, and all clauses do; where there is none, there is nothing. -/
theorem next_sound (m : Mod) (hm : checkM m = 0) (G : List Int → Prop) : ∀ (N : Nat) (S : Sk), openSk m.vars S < N → Sound m G S →
    Sound m G (nextP m.vars (ptsM m) S).2.2 ∧ ((nextP m.vars (ptsM m) S).1 = 1 → Sol m (nextP m.vars (ptsM m) S).2.1 ∧ (∀ c ∈ (nextP m.vars (ptsM m) S).2.2.cs, Hits m.vars (nextP m.vars (ptsM m) S).2.1 c) ∧ ∀ c ∈ S.cs, c ∈ (nextP m.vars (ptsM m) S).2.2.cs) ∧
      ((nextP m.vars (ptsM m) S).1 = 2 → ∀ x, Sol m x → ¬ G x) ∧ ((nextP m.vars (ptsM m) S).1 = 1 ∨ (nextP m.vars (ptsM m) S).1 = 2 ∨ (nextP m.vars (ptsM m) S).1 = 3) ∧ ((nextP m.vars (ptsM m) S).1 ≠ 1 → (nextP m.vars (ptsM m) S).2.1 = [])
  | 0, S, h, _ => by omega
  | N + 1, S, h, hs => by
    rw [next_step m.vars (vars_okP m hm)]
    split
    · rename_i hz
      obtain ⟨t1, t2⟩ := turn_sound m hm G S hs hz
      split
      · rename_i h0
        obtain ⟨n1, n2, n3, n4⟩ := next_sound m hm G N _ (by have := turn_open m.vars (ptsM m) S h0; omega) t1
        refine ⟨n1, fun hv => ?_, n3, n4⟩
        obtain ⟨k1, k2, k3⟩ := n2 hv
        refine ⟨k1, k2, fun c hc => k3 c ?_⟩
        unfold turnP at h0 ⊢
        split
        · exact hc
        · split
          · exact hc
          · split
            · exact hc
            · exact List.mem_append_left _ hc
      · rename_i h0
        have h3 : (turnP m.vars (ptsM m) S).1 = 0 ∨ (turnP m.vars (ptsM m) S).1 = 2 ∨ (turnP m.vars (ptsM m) S).1 = 3 := by
          unfold turnP
          split
          · exact Or.inr (Or.inr rfl)
          · split
            · exact Or.inr (Or.inr rfl)
            · split
              · exact Or.inr (Or.inl rfl)
              · exact Or.inl rfl
        refine ⟨t1, fun hv => ?_, t2, ?_, fun _ => rfl⟩
        · simp only at hv
          omega
        · simp only
          omega
    · rename_i hz
      split
      · rename_i hf
        obtain ⟨f1, f2⟩ := found_sound m hm S hz hf
        exact ⟨hs, fun _ => ⟨f1, f2, fun c hc => hc⟩, (fun h => by cases h), Or.inl rfl, (fun h => absurd rfl h)⟩
      · rename_i hf
        exact next_sound m hm G N _ (by have := dec_open m.vars (vars_okP m hm) (ptsM m) S hf; omega) hs
end Go.Proofs.YtdjbejlbmaiocagGreatDoor
/-
  PLAIN: the reasons for all that constraints take are enough: clauses alone come to the same end.
-/
namespace Go.Proofs.YtdjbejlbmaiocagGreatDoor

/-- Nothing more follows of clauses, one value after the other. -/
def ClosedU (A : List Nat) (r : Nat) : Prop := ∀ c ∈ A, r &&& c ≠ 0 ∧ (lessN (r &&& c) (fieldP (r &&& c)) = 0 → ∀ i, r.testBit i = true → (fieldP (r &&& c)).testBit i = true → c.testBit i = true)
def SubP (a b : Nat) : Prop := ∀ i, a.testBit i = true → b.testBit i = true
theorem and_bit (a b i : Nat) : (a &&& b).testBit i = true ↔ a.testBit i = true ∧ b.testBit i = true := by rw [Nat.testBit_and, Bool.and_eq_true]
theorem less_bit (a b i : Nat) : (lessN a b).testBit i = true ↔ a.testBit i = true ∧ b.testBit i = false := by rw [testBit_less, Bool.and_eq_true, Bool.not_eq_true']
theorem field_of_bit (p i : Nat) (h : lessN p (fieldP p) = 0) (hi : p.testBit i = true) : ∀ j, (fieldP p).testBit j = true ↔ j / 6 = i / 6 := by
  intro j
  have h1 := (less_zero _ _).1 h i hi
  rw [field_testBit, decide_eq_true_eq] at h1
  rw [field_testBit, decide_eq_true_eq, h1]
theorem round_closed (r : Nat) (hr : r < 2 ^ 36) : ∀ (cs : List Nat) (l : Nat), ClosedU cs r → SubP r l → ∃ l', roundP cs l = some l' ∧ SubP r l'
  | [], l, _, hs => ⟨l, rfl, hs⟩
  | c :: t, l, hc, hs => by
    obtain ⟨h1, h2⟩ := hc c (List.mem_cons_self ..)
    obtain ⟨i, hi⟩ := bit_of_ne h1
    have hi2 := (and_bit _ _ _).1 hi
    have hne : l &&& c ≠ 0 := fun h => by
      have := (and_bit l c i).2 ⟨hs i hi2.1, hi2.2⟩
      rw [h] at this
      simp at this
    unfold roundP
    rw [if_neg hne]
    split
    · rename_i hf
      refine round_closed r hr t _ (fun d hd => hc d (List.mem_cons_of_mem _ hd)) fun j hj => ?_
      have hli : (l &&& c).testBit i = true := (and_bit _ _ _).2 ⟨hs i hi2.1, hi2.2⟩
      have hfl := field_of_bit _ i hf hli
      have hrf : lessN (r &&& c) (fieldP (r &&& c)) = 0 := by
        refine (less_zero _ _).2 fun k hk => ?_
        have hk2 := (and_bit _ _ _).1 hk
        have hkl : (l &&& c).testBit k = true := (and_bit _ _ _).2 ⟨hs k hk2.1, hk2.2⟩
        have hk3 := (hfl k).1 ((less_zero _ _).1 hf k hkl)
        have hct : (r &&& c).testBit (Lib.ctz 64 (r &&& c)) = true := by
          have hle : r &&& c ≤ r := Nat.and_le_left
          exact (low_bits _ h1 (by omega) _).2.1 rfl
        have hc2 := (and_bit _ _ _).1 hct
        have hcl : (l &&& c).testBit (Lib.ctz 64 (r &&& c)) = true := (and_bit _ _ _).2 ⟨hs _ hc2.1, hc2.2⟩
        have hc3 := (hfl _).1 ((less_zero _ _).1 hf _ hcl)
        rw [field_testBit, decide_eq_true_eq]
        omega
      rw [less_bit]
      refine ⟨hs j hj, ?_⟩
      cases hb : (lessN (fieldP (l &&& c)) (l &&& c)).testBit j
      · rfl
      · exfalso
        obtain ⟨b1, b2⟩ := (less_bit _ _ _).1 hb
        have hj6 := (hfl j).1 b1
        have hrj := field_of_bit _ i hrf hi
        have := h2 hrf j hj ((hrj j).2 hj6)
        rw [(and_bit _ _ _).2 ⟨hs j hj, this⟩] at b2
        cases b2
    · exact round_closed r hr t l (fun d hd => hc d (List.mem_cons_of_mem _ hd)) hs
theorem unitsN_closed (r : Nat) (hr : r < 2 ^ 36) (cs : List Nat) (hc : ClosedU cs r) : ∀ (f l : Nat), SubP r l → SubP r (unitsN cs f l)
  | 0, l, hs => hs
  | f + 1, l, hs => by
    obtain ⟨l', h1, h2⟩ := round_closed r hr cs l hc hs
    unfold unitsN
    rw [h1]
    simp only
    split
    · exact hs
    · exact unitsN_closed r hr cs hc f l' h2
theorem lack_sub (n a b : Nat) (h : SubP a b) (ha : lackP n a = false) : lackP n b = false := by
  refine lack_not n b fun v hv => ?_
  obtain ⟨k, h1, h2⟩ := lack_bits n a ha v hv
  exact ⟨k, h1, h _ h2⟩
theorem units_closed (vs : List MVar) (r : Nat) (hr : r < 2 ^ 36) (hl : lackP vs.length r = false) (cs : List Nat) (hc : ClosedU cs r) (l : Nat) (hs : SubP r l) : SubP r (unitsP vs cs l) := by
  unfold unitsP
  rw [if_neg (by rw [lack_sub _ _ _ hs hl]; decide)]
  exact unitsN_closed r hr cs hc _ l hs
/-- Unit by unit no variable loses all. -/
theorem round_lack (n : Nat) : ∀ (cs : List Nat) (l l' : Nat), l < 2 ^ 36 → roundP cs l = some l' → lackP n l = false → lackP n l' = false
  | [], l, l', _, h, hl => by simp [roundP] at h; rw [← h]; exact hl
  | c :: t, l, l', h36, h, hl => by
    unfold roundP at h
    split at h
    · cases h
    · rename_i h0
      split at h
      · rename_i hf
        have h36' := less_le l (lessN (fieldP (l &&& c)) (l &&& c))
        refine round_lack n t _ l' (by omega) h (lack_not n _ fun v hv => ?_)
        obtain ⟨k, k1, k2⟩ := lack_bits n l hl v hv
        obtain ⟨i, hi⟩ := bit_of_ne h0
        have hfl := field_of_bit _ i hf hi
        by_cases hv6 : v = i / 6
        · subst hv6
          refine ⟨i % 6, by omega, ?_⟩
          rw [show 6 * (i / 6) + i % 6 = i by omega, less_bit]
          refine ⟨((and_bit _ _ _).1 hi).1, ?_⟩
          rw [testBit_less, hi]; simp
        · refine ⟨k, k1, ?_⟩
          rw [less_bit]
          refine ⟨k2, ?_⟩
          cases hb : (lessN (fieldP (l &&& c)) (l &&& c)).testBit (6 * v + k)
          · rfl
          · have := (hfl _).1 ((less_bit _ _ _).1 hb).1
            omega
      · exact round_lack n t l l' h36 h hl
theorem unitsN_lack (n : Nat) (cs : List Nat) : ∀ (f l : Nat), l < 2 ^ 36 → lackP n l = false → unitsN cs f l ≠ 0 → lackP n (unitsN cs f l) = false
  | 0, l, _, hl, _ => hl
  | f + 1, l, h, hl, hn => by
    unfold unitsN at hn ⊢
    cases hr : roundP cs l with
    | none => rw [hr] at hn; exact absurd rfl hn
    | some l' =>
      rw [hr] at hn
      simp only at hn ⊢
      by_cases he : l' = l
      · rw [if_pos he]; exact hl
      · rw [if_neg he] at hn ⊢
        have := round_le cs l l' hr
        exact unitsN_lack n cs f l' (by omega) (round_lack n cs l l' h hr hl) hn
theorem unitsN_fix (cs : List Nat) : ∀ (f l : Nat), l < f → unitsN cs f l ≠ 0 → roundP cs (unitsN cs f l) = some (unitsN cs f l)
  | 0, l, h, _ => by omega
  | f + 1, l, h, hn => by
    unfold unitsN at hn ⊢
    cases hr : roundP cs l with
    | none => rw [hr] at hn; exact absurd rfl hn
    | some l' =>
      rw [hr] at hn
      simp only at hn ⊢
      by_cases he : l' = l
      · rw [if_pos he]; rw [he] at hr; exact hr
      · rw [if_neg he] at hn ⊢
        have := round_le cs l l' hr
        exact unitsN_fix cs f l' (by omega) hn
theorem round_self : ∀ (cs : List Nat) (l : Nat), roundP cs l = some l → ClosedU cs l
  | [], l, _ => fun c hc => by cases hc
  | c :: t, l, h => by
    unfold roundP at h
    split at h
    · cases h
    · rename_i h0
      split at h
      · rename_i hf
        have h1 := round_le t _ l h
        have h2 := less_le l (lessN (fieldP (l &&& c)) (l &&& c))
        have h3 : lessN l (lessN (fieldP (l &&& c)) (l &&& c)) = l := by omega
        rw [h3] at h
        intro d hd
        rcases List.mem_cons.1 hd with rfl | hd
        · refine ⟨h0, fun _ i hi hfi => ?_⟩
          have h4 := congrArg (fun z => Nat.testBit z i) h3
          simp only [testBit_less, hi, hfi] at h4
          have h5 : (l &&& d).testBit i = true := by
            cases hb : (l &&& d).testBit i
            · rw [hb] at h4; simp at h4
            · rfl
          exact ((and_bit _ _ _).1 h5).2
        · exact round_self t l h d hd
      · rename_i hf
        intro d hd
        rcases List.mem_cons.1 hd with rfl | hd
        · exact ⟨h0, fun h5 => absurd h5 hf⟩
        · exact round_self t l h d hd
/-- What units leave: nothing more follows of it. -/
theorem units_self (vs : List MVar) (A : List Nat) (l : Nat) (h36 : l < 2 ^ 36) (hn : unitsP vs A l ≠ 0) : lackP vs.length (unitsP vs A l) = false ∧ ClosedU A (unitsP vs A l) ∧ SubP (unitsP vs A l) l := by
  refine ⟨?_, ?_, fun i hi => units_bit vs A l i hi⟩
  · unfold unitsP at hn ⊢
    split
    · rename_i hc; rw [if_pos hc] at hn; exact absurd rfl hn
    · rename_i hc
      rw [if_neg hc] at hn
      exact unitsN_lack _ A _ l h36 (by simpa using hc) hn
  · unfold unitsP at hn ⊢
    split
    · rename_i hc; rw [if_pos hc] at hn; exact absurd rfl hn
    · rename_i hc
      rw [if_neg hc] at hn
      exact round_self A _ (unitsN_fix A _ l (Nat.lt_succ_self _) hn)
theorem closed_mono {A B : List Nat} {r : Nat} (h : ClosedU B r) (hs : ∀ c ∈ A, c ∈ B) : ClosedU A r := fun c hc => h c (hs c hc)
/-- MORE CLAUSES FAIL, WHERE FEWER DO. -/
theorem fails_mono (vs : List MVar) (hv : VarsOk vs) (A B : List Nat) (h : Nat) (hs : ∀ c ∈ A, c ∈ B) (hf : failsP vs A h = true) : failsP vs B h = true := by
  unfold failsP at *
  have h0 : unitsP vs A (lessN (wholeP vs) h) = 0 := by simpa using hf
  have h36 : lessN (wholeP vs) h < 2 ^ 36 := less_lt 36 _ _ (whole_lt vs hv)
  cases hb : (unitsP vs B (lessN (wholeP vs) h) == 0)
  · exfalso
    have hn : unitsP vs B (lessN (wholeP vs) h) ≠ 0 := by simpa using hb
    obtain ⟨k1, k2, k3⟩ := units_self vs B _ h36 hn
    have hle := units_le vs B (lessN (wholeP vs) h)
    have := units_closed vs _ (by omega) k1 A (closed_mono k2 hs) _ k3
    obtain ⟨i, hi⟩ := bit_of_ne hn
    have := this i hi
    rw [h0] at this
    simp at this
  · rfl
theorem lits_held (vs : List MVar) (hv : VarsOk vs) (g : Nat) (hg : SubP g (wholeP vs)) (i : Nat) : (heldP vs (litsP vs g)).testBit i = g.testBit i := by
  unfold heldP ofP
  rw [testBit_of vs hv]
  rw [Bool.eq_iff_iff]
  simp only [Bool.and_eq_true, decide_eq_true_eq]
  constructor
  · rintro ⟨h1, h2, h3⟩
    unfold oneB at h3
    obtain ⟨l, hl, hc⟩ := List.any_eq_true.1 h3
    unfold litsP at hl
    obtain ⟨j, hj, rfl⟩ := List.mem_map.1 hl
    unfold bitsL at hj
    have hj2 := (List.mem_filter.1 hj).2
    simp only [Bool.and_eq_true, decide_eq_true_eq] at hc
    obtain ⟨c1, c2⟩ := hc
    have c1' : j / 6 = i / 6 := by omega
    rw [c1'] at c2
    unfold litV at c2
    simp at c2
    have : j = i := by omega
    rw [← this]; exact hj2
  · intro h
    have hw := hg i h
    unfold wholeP ofP at hw
    rw [testBit_of vs hv] at hw
    simp only [Bool.and_eq_true, decide_eq_true_eq] at hw
    refine ⟨hw.1, hw.2.1, ?_⟩
    unfold oneB
    refine List.any_eq_true.2 ⟨⟨((i / 6 : Nat) : Int), 3, (varAt vs (i / 6)).lo + ((i % 6 : Nat) : Int)⟩, ?_, ?_⟩
    · unfold litsP
      refine List.mem_map.2 ⟨i, (mem_bits g i (by have := hv.1; omega)).2 h, rfl⟩
    · simp only [decide_true, Bool.true_and]
      unfold litV
      simp
/-- What is held by all but one value of a variable. -/
theorem ne_held (vs : List MVar) (hv : VarsOk vs) (b i : Nat) (hb : (wholeP vs).testBit b = true) : (heldP vs [(⟨((b / 6 : Nat) : Int), 4, (varAt vs (b / 6)).lo + ((b % 6 : Nat) : Int)⟩ : MLit)]).testBit i = true ↔ (wholeP vs).testBit i = true ∧ i / 6 = b / 6 ∧ i ≠ b := by
  unfold heldP wholeP ofP at *
  rw [testBit_of vs hv, testBit_of vs hv]
  simp only [Bool.and_eq_true, decide_eq_true_eq]
  unfold oneB
  simp only [List.any_cons, List.any_nil, Bool.or_false, Bool.and_eq_true, decide_eq_true_eq]
  constructor
  · rintro ⟨h1, h2, h3, h4⟩
    have h5 : i / 6 = b / 6 := by omega
    refine ⟨⟨h1, h2, trivial⟩, h5, fun he => ?_⟩
    subst he
    unfold litV at h4
    simp at h4
  · rintro ⟨⟨h1, h2, _⟩, h3, h4⟩
    refine ⟨h1, h2, by omega, ?_⟩
    unfold litV
    rw [h3]
    simp
    omega
end Go.Proofs.YtdjbejlbmaiocagGreatDoor
/-
  PLAIN: reasons are said by their constraints, and all of them together are enough.
-/
namespace Go.Proofs.YtdjbejlbmaiocagGreatDoor

theorem held_none (vs : List MVar) (hv : VarsOk vs) : heldP vs [] = 0 := by
  apply Nat.eq_of_testBit_eq
  intro i
  rw [held_nil vs hv, Nat.zero_testBit]
def spareW (vs : List MVar) (pts : List Nat) (any : Cla) (gone : Nat) : Nat := spareP (fun g => saysP vs pts (heldP vs any ||| g)) (gone + 1) gone gone
theorem why_held (vs : List MVar) (hv : VarsOk vs) (pts : List Nat) (any : Cla) (gone : Nat) (hg : SubP gone (wholeP vs)) : heldP vs (whyP vs pts any gone) = heldP vs any ||| spareW vs pts any gone ∧ SubP (spareW vs pts any gone) gone := by
  have hs : SubP (spareW vs pts any gone) gone := fun i hi => spare_sub _ _ _ _ i hi
  refine ⟨?_, hs⟩
  apply Nat.eq_of_testBit_eq
  intro i
  unfold whyP
  rw [heldP_append vs hv, Nat.testBit_or]
  congr 1
  exact lits_held vs hv _ (fun j hj => hg j (hs j hj)) i
/-- All reasons of what one constraint takes are there, so values of which nothing more follows by clauses stay. -/
theorem left_sub (vs : List MVar) (hv : VarsOk vs) (pt : List (List Nat)) (A : List Nat) (r : Nat) (hA : ClosedU A r) (k : Nat) (pts : List Nat) (hk : pt.getD k [] = pts) (l : Nat) (hlw : SubP l (wholeP vs)) (hrl : SubP r l)
    (hr : ∀ x ∈ reasonsT vs pt (k, l, leftP pts l), x.2 ∈ A) : SubP r (leftP pts l) := by
  have hgw : SubP (lessN (wholeP vs) l) (wholeP vs) := fun i hi => ((less_bit _ _ _).1 hi).1
  by_cases h0 : leftP pts l = 0
  · exfalso
    have hm := hr (reasonOf vs k (whyP vs pts [] (lessN (wholeP vs) l))) (by unfold reasonsT; simp only; rw [if_pos h0, hk]; exact List.mem_singleton.2 rfl)
    obtain ⟨h1, _⟩ := hA _ hm
    obtain ⟨i, hi⟩ := bit_of_ne h1
    obtain ⟨i1, i2⟩ := (and_bit _ _ _).1 hi
    obtain ⟨w1, w2⟩ := why_held vs hv pts [] (lessN (wholeP vs) l) hgw
    have i3 : (heldP vs (whyP vs pts [] (lessN (wholeP vs) l))).testBit i = true := i2
    rw [w1, held_none vs hv, Nat.zero_or] at i3
    have := ((less_bit _ _ _).1 (w2 i i3)).2
    rw [hrl i i1] at this
    cases this
  · intro b hb
    cases hab : (leftP pts l).testBit b
    · exfalso
      have hbl := hrl b hb
      have hbw := hlw b hbl
      have hb36 : b < 36 := by
        have := hbw
        unfold wholeP ofP at this
        rw [testBit_of vs hv] at this
        simp only [Bool.and_eq_true, decide_eq_true_eq] at this
        have := hv.1
        omega
      have hlit : (⟨((b / 6 : Nat) : Int), 3, (varAt vs (b / 6)).lo + ((b % 6 : Nat) : Int)⟩ : MLit) ∈ litsP vs (lessN l (leftP pts l)) := by
        unfold litsP
        exact List.mem_map.2 ⟨b, (mem_bits _ b hb36).2 ((less_bit _ _ _).2 ⟨hbl, hab⟩), rfl⟩
      have hm := hr (reasonOf vs k (whyP vs pts [⟨((b / 6 : Nat) : Int), 4, (varAt vs (b / 6)).lo + ((b % 6 : Nat) : Int)⟩] (lessN (wholeP vs) l))) (by
        unfold reasonsT
        simp only
        rw [if_neg h0, hk]
        exact List.mem_map.2 ⟨_, hlit, rfl⟩)
      obtain ⟨w1, w2⟩ := why_held vs hv pts [⟨((b / 6 : Nat) : Int), 4, (varAt vs (b / 6)).lo + ((b % 6 : Nat) : Int)⟩] (lessN (wholeP vs) l) hgw
      obtain ⟨h1, h2⟩ := hA _ hm
      change r &&& heldP vs (whyP vs pts [⟨((b / 6 : Nat) : Int), 4, (varAt vs (b / 6)).lo + ((b % 6 : Nat) : Int)⟩] (lessN (wholeP vs) l)) ≠ 0 at h1
      change lessN (r &&& heldP vs (whyP vs pts [⟨((b / 6 : Nat) : Int), 4, (varAt vs (b / 6)).lo + ((b % 6 : Nat) : Int)⟩] (lessN (wholeP vs) l))) (fieldP (r &&& heldP vs (whyP vs pts [⟨((b / 6 : Nat) : Int), 4, (varAt vs (b / 6)).lo + ((b % 6 : Nat) : Int)⟩] (lessN (wholeP vs) l)))) = 0 → ∀ i, r.testBit i = true → (fieldP (r &&& heldP vs (whyP vs pts [⟨((b / 6 : Nat) : Int), 4, (varAt vs (b / 6)).lo + ((b % 6 : Nat) : Int)⟩] (lessN (wholeP vs) l)))).testBit i = true → (heldP vs (whyP vs pts [⟨((b / 6 : Nat) : Int), 4, (varAt vs (b / 6)).lo + ((b % 6 : Nat) : Int)⟩] (lessN (wholeP vs) l))).testBit i = true at h2
      rw [w1] at h1 h2
      generalize spareW vs pts [⟨((b / 6 : Nat) : Int), 4, (varAt vs (b / 6)).lo + ((b % 6 : Nat) : Int)⟩] (lessN (wholeP vs) l) = g at *
      have hin : ∀ i, (r &&& (heldP vs [⟨((b / 6 : Nat) : Int), 4, (varAt vs (b / 6)).lo + ((b % 6 : Nat) : Int)⟩] ||| g)).testBit i = true → i / 6 = b / 6 ∧ i ≠ b := fun i hi => by
        obtain ⟨i1, i2⟩ := (and_bit _ _ _).1 hi
        rw [Nat.testBit_or, Bool.or_eq_true] at i2
        rcases i2 with i2 | i2
        · exact ((ne_held vs hv b i hbw).1 i2).2
        · have := ((less_bit _ _ _).1 (w2 i i2)).2
          rw [hrl i i1] at this
          cases this
      obtain ⟨i, hi⟩ := bit_of_ne h1
      have hct : (r &&& (heldP vs [⟨((b / 6 : Nat) : Int), 4, (varAt vs (b / 6)).lo + ((b % 6 : Nat) : Int)⟩] ||| g)).testBit (Lib.ctz 64 (r &&& (heldP vs [⟨((b / 6 : Nat) : Int), 4, (varAt vs (b / 6)).lo + ((b % 6 : Nat) : Int)⟩] ||| g))) = true := by
        refine (low_bits _ h1 ?_ _).2.1 rfl
        refine Nat.lt_of_le_of_lt (Nat.le_of_testBit fun j hj => hlw j (hrl j ((and_bit _ _ _).1 hj).1)) ?_
        have := whole_lt vs hv
        omega
      have hc6 := (hin _ hct).1
      have hz : lessN (r &&& (heldP vs [⟨((b / 6 : Nat) : Int), 4, (varAt vs (b / 6)).lo + ((b % 6 : Nat) : Int)⟩] ||| g)) (fieldP (r &&& (heldP vs [⟨((b / 6 : Nat) : Int), 4, (varAt vs (b / 6)).lo + ((b % 6 : Nat) : Int)⟩] ||| g))) = 0 := by
        refine (less_zero _ _).2 fun j hj => ?_
        rw [field_testBit, decide_eq_true_eq, (hin j hj).1, hc6]
      have hbb := h2 hz b hb (by rw [field_testBit, decide_eq_true_eq, hc6])
      rw [Nat.testBit_or, Bool.or_eq_true] at hbb
      rcases hbb with h | h
      · exact ((ne_held vs hv b b hbw).1 h).2.2 rfl
      · have := ((less_bit _ _ _).1 (w2 b h)).2
        rw [hbl] at this
        cases this
    · rfl
theorem cons_sub (vs : List MVar) (hv : VarsOk vs) (pt : List (List Nat)) (A : List Nat) (r : Nat) (hA : ClosedU A r) : ∀ (ptl : List (List Nat)) (k l : Nat), (∀ (j : Nat) pts, ptl[j]? = some pts → pt.getD (k + j) [] = pts) → SubP l (wholeP vs) → SubP r l →
    (∀ t ∈ consT k ptl l, ∀ x ∈ reasonsT vs pt t, x.2 ∈ A) → SubP r (consN ptl l)
  | [], k, l, _, _, hrl, _ => hrl
  | pts :: rest, k, l, hk, hlw, hrl, hr => by
    unfold consN
    unfold consT at hr
    by_cases h0 : l = 0
    · rw [if_pos h0]; exact hrl
    · rw [if_neg h0] at hr ⊢
      have h36 : l < 2 ^ 36 := Nat.lt_of_le_of_lt (Nat.le_of_testBit hlw) (whole_lt vs hv)
      refine cons_sub vs hv pt A r hA rest (k + 1) (leftP pts l) (fun j q hq => by have := hk (j + 1) q (by simpa using hq); rw [← this]; congr 1; omega) (fun i hi => hlw i (left_bit pts l i h36 hi)) ?_ (fun t ht => hr t (List.mem_append_right _ ht))
      by_cases he : leftP pts l = l
      · rw [he]; exact hrl
      · exact left_sub vs hv pt A r hA k pts (by have := hk 0 pts rfl; simpa using this) l hlw hrl (fun x hx => hr (k, l, leftP pts l) (List.mem_append_left _ (by rw [if_neg he]; exact List.mem_singleton.2 rfl)) x hx)
theorem narrow_subr (vs : List MVar) (hv : VarsOk vs) (pt : List (List Nat)) (cs A : List Nat) (hcs : ∀ c ∈ cs, c ∈ A) (r : Nat) (hr36 : r < 2 ^ 36) (hlk : lackP vs.length r = false) (hA : ClosedU A r) : ∀ (f l : Nat), SubP l (wholeP vs) → SubP r l →
    (∀ t ∈ narrowT vs cs pt f l, ∀ x ∈ reasonsT vs pt t, x.2 ∈ A) → SubP r (narrowN vs cs pt f l)
  | 0, l, _, hrl, _ => hrl
  | f + 1, l, hlw, hrl, hr => by
    unfold narrowN
    unfold narrowT at hr
    have hu := units_closed vs r hr36 hlk cs (closed_mono hA hcs) l hrl
    have hc := cons_sub vs hv pt A r hA pt 0 (unitsP vs cs l) (fun j pts hj => by rw [Nat.zero_add, List.getD_eq_getElem?_getD, hj]; rfl) (fun i hi => hlw i (units_bit vs cs l i hi)) hu (fun t ht => hr t (List.mem_append_left _ ht))
    split
    · exact hrl
    · rename_i hne
      rw [if_neg hne] at hr
      have h36 : l < 2 ^ 36 := Nat.lt_of_le_of_lt (Nat.le_of_testBit hlw) (whole_lt vs hv)
      refine narrow_subr vs hv pt cs A hcs r hr36 hlk hA f _ (fun i hi => ?_) hc (fun t ht => hr t (List.mem_append_right _ ht))
      have : ∀ (ptl : List (List Nat)) (q : Nat), q < 2 ^ 36 → (consN ptl q).testBit i = true → q.testBit i = true := by
        intro ptl
        induction ptl with
        | nil => intro q _ h; exact h
        | cons pts rest ih =>
          intro q hq h
          unfold consN at h
          split at h
          · exact h
          · have := left_le pts q hq
            exact left_bit pts q i hq (ih _ (by omega) h)
      have h3 := units_le vs cs l
      exact hlw i (units_bit vs cs l i (this pt _ (by omega) hi))
/-- ALL REASONS TOGETHER ARE ENOUGH. -/
theorem reasons_enough (vs : List MVar) (hv : VarsOk vs) (cs : List Nat) (pt : List (List Nat)) (h : Nat) (hz : narrowP vs cs pt h = 0) : enoughP vs cs h (reasonsP vs cs pt h) = true := by
  unfold enoughP failsP
  cases hb : (unitsP vs (cs ++ (reasonsP vs cs pt h).map (·.2)) (lessN (wholeP vs) h) == 0)
  · exfalso
    have hn : unitsP vs (cs ++ (reasonsP vs cs pt h).map (·.2)) (lessN (wholeP vs) h) ≠ 0 := by simpa using hb
    have h36 : lessN (wholeP vs) h < 2 ^ 36 := less_lt 36 _ _ (whole_lt vs hv)
    obtain ⟨k1, k2, k3⟩ := units_self vs _ _ h36 hn
    have hle := units_le vs (cs ++ (reasonsP vs cs pt h).map (·.2)) (lessN (wholeP vs) h)
    have hL0 : lessN (wholeP vs) h ≠ 0 := fun he => hn (by omega)
    unfold narrowP at hz
    rw [if_neg hL0] at hz
    have hs := narrow_subr vs hv pt cs (cs ++ (reasonsP vs cs pt h).map (·.2)) (fun c hc => List.mem_append_left _ hc) _ (by omega) k1 k2 (lessN (wholeP vs) h + 1) (lessN (wholeP vs) h) (fun i hi => ((less_bit _ _ _).1 hi).1) k3 (fun t ht x hx => by
      refine List.mem_append_right _ (List.mem_map.2 ⟨x, ?_, rfl⟩)
      unfold reasonsP tellsP
      rw [if_neg hL0]
      exact List.mem_flatMap.2 ⟨t, ht, hx⟩)
    rw [hz] at hs
    obtain ⟨i, hi⟩ := bit_of_ne hn
    have := hs i hi
    simp at this
  · rfl
end Go.Proofs.YtdjbejlbmaiocagGreatDoor
/-
  PLAIN: each reason is said by its constraint, and is a right clause.
-/
namespace Go.Proofs.YtdjbejlbmaiocagGreatDoor

structure TellOk (vs : List MVar) (pt : List (List Nat)) (t : Nat × Nat × Nat) : Prop where
  pts : ∃ pts, pt[t.1]? = some pts ∧ t.2.2 = leftP pts t.2.1
  sub : SubP t.2.1 (wholeP vs)
  ne : t.2.1 ≠ 0
  dif : t.2.2 ≠ t.2.1
theorem consT_ok (vs : List MVar) (hv : VarsOk vs) (pt : List (List Nat)) : ∀ (ptl : List (List Nat)) (k l : Nat), (∀ (j : Nat) pts, ptl[j]? = some pts → pt[k + j]? = some pts) → SubP l (wholeP vs) → ∀ t ∈ consT k ptl l, TellOk vs pt t
  | [], k, l, _, _ => fun t ht => by cases ht
  | pts :: rest, k, l, hk, hlw => by
    intro t ht
    unfold consT at ht
    by_cases h0 : l = 0
    · rw [if_pos h0] at ht; cases ht
    · rw [if_neg h0] at ht
      have h36 : l < 2 ^ 36 := Nat.lt_of_le_of_lt (Nat.le_of_testBit hlw) (whole_lt vs hv)
      rcases List.mem_append.1 ht with ht | ht
      · by_cases he : leftP pts l = l
        · rw [if_pos he] at ht; cases ht
        · rw [if_neg he] at ht
          rw [List.mem_singleton.1 ht]
          exact ⟨⟨pts, hk 0 pts rfl, rfl⟩, hlw, h0, he⟩
      · exact consT_ok vs hv pt rest (k + 1) (leftP pts l) (fun j q hq => by have := hk (j + 1) q (by simpa using hq); rw [← this]; congr 1; omega) (fun i hi => hlw i (left_bit pts l i h36 hi)) t ht
theorem narrowT_ok (vs : List MVar) (hv : VarsOk vs) (cs : List Nat) (pt : List (List Nat)) : ∀ (f l : Nat), SubP l (wholeP vs) → ∀ t ∈ narrowT vs cs pt f l, TellOk vs pt t
  | 0, l, _ => fun t ht => by cases ht
  | f + 1, l, hlw => by
    intro t ht
    unfold narrowT at ht
    have h36 : l < 2 ^ 36 := Nat.lt_of_le_of_lt (Nat.le_of_testBit hlw) (whole_lt vs hv)
    rcases List.mem_append.1 ht with ht | ht
    · exact consT_ok vs hv pt pt 0 _ (fun j pts hj => by rw [Nat.zero_add]; exact hj) (fun i hi => hlw i (units_bit vs cs l i hi)) t ht
    · split at ht
      · cases ht
      · refine narrowT_ok vs hv cs pt f _ (fun i hi => ?_) t ht
        have : ∀ (ptl : List (List Nat)) (q : Nat), q < 2 ^ 36 → (consN ptl q).testBit i = true → q.testBit i = true := by
          intro ptl
          induction ptl with
          | nil => intro q _ h; exact h
          | cons pts rest ih =>
            intro q hq h
            unfold consN at h
            split at h
            · exact h
            · have := left_le pts q hq
              exact left_bit pts q i hq (ih _ (by omega) h)
        have h3 := units_le vs cs l
        exact hlw i (units_bit vs cs l i (this pt _ (by omega) hi))
theorem tells_ok (vs : List MVar) (hv : VarsOk vs) (cs : List Nat) (pt : List (List Nat)) (h : Nat) : ∀ t ∈ tellsP vs cs pt h, TellOk vs pt t := by
  intro t ht
  unfold tellsP at ht
  split at ht
  · cases ht
  · exact narrowT_ok vs hv cs pt _ _ (fun i hi => ((less_bit _ _ _).1 hi).1) t ht
/-- Points lie within all values, and have one of each of their variables. -/
theorem points_whole (vs : List MVar) (hv : VarsOk vs) (c : MCon) (hsc : ∀ v ∈ scopeC c, 0 ≤ v ∧ v < (vs.length : Int)) : ∀ (r u : List Int) (a p : Nat), (∀ v ∈ r, 0 ≤ v ∧ v < (vs.length : Int)) → SubP a (wholeP vs) → p ∈ pointsN vs c r u a → SubP p (wholeP vs)
  | [], u, a, p, _, ha, hp => by
    unfold pointsN at hp
    split at hp
    · rw [List.mem_singleton.1 hp]; exact ha
    · cases hp
  | v :: r, u, a, p, hr, ha, hp => by
    unfold pointsN at hp
    obtain ⟨x, hx, hp⟩ := List.mem_flatMap.1 hp
    refine points_whole vs hv c hsc r _ _ p (fun y hy => hr y (List.mem_cons_of_mem _ hy)) (fun i hi => ?_) hp
    rw [Nat.testBit_or, Bool.or_eq_true, testBit_pow] at hi
    rcases hi with hi | hi
    · exact ha i hi
    · have h1 : 6 * v.toNat + (x - (varAt vs v.toNat).lo).toNat = i := by simpa using hi
      obtain ⟨b1, b2⟩ := (mem_span_iff _ _ _).1 hx
      obtain ⟨v0, v1⟩ := hr v (List.mem_cons_self ..)
      have h6 := hv.2 v.toNat
      unfold sizeV at h6
      unfold wholeP ofP
      rw [testBit_of vs hv]
      simp only [Bool.and_eq_true, decide_eq_true_eq]
      have e1 : i / 6 = v.toNat := by omega
      rw [e1]
      refine ⟨by omega, ?_, trivial⟩
      unfold sizeV
      omega
/-- WHAT A CONSTRAINT TAKES IT SAYS. -/
theorem left_says (m : Mod) (hm : checkM m = 0) (j : Nat) (c : MCon) (hc : m.cons[j]? = some c) (l : Nat) (hlw : SubP l (wholeP m.vars)) (hl0 : l ≠ 0) :
    (leftP (pointsP m.vars c) l = 0 → saysP m.vars (pointsP m.vars c) (heldP m.vars [] ||| lessN (wholeP m.vars) l) = true) ∧
    (∀ b, l.testBit b = true → (leftP (pointsP m.vars c) l).testBit b = false → leftP (pointsP m.vars c) l ≠ 0 → saysP m.vars (pointsP m.vars c) (heldP m.vars [(⟨((b / 6 : Nat) : Int), 4, (varAt m.vars (b / 6)).lo + ((b % 6 : Nat) : Int)⟩ : MLit)] ||| lessN (wholeP m.vars) l) = true) := by
  have hv := vars_okP m hm
  obtain ⟨k1, k2⟩ := scope_in m hm j c hc
  have hpw : ∀ q ∈ pointsP m.vars c, SubP q (wholeP m.vars) := fun q hq => points_whole m.vars hv c k1 _ _ _ q k1 (fun i hi => by simp at hi) hq
  have h36 : l < 2 ^ 36 := Nat.lt_of_le_of_lt (Nat.le_of_testBit hlw) (whole_lt m.vars hv)
  constructor
  · intro h0
    rw [held_none m.vars hv, Nat.zero_or]
    unfold saysP
    rw [Bool.or_eq_true]
    right
    rw [Bool.not_eq_true', List.any_eq_false]
    intro q hq hst
    unfold stayP at hst
    have hz : q &&& lessN (wholeP m.vars) l = 0 := by simpa using hst
    have hql : lessN q l = 0 := (less_zero _ _).2 fun i hi => by
      cases hb : l.testBit i
      · have := (and_bit q (lessN (wholeP m.vars) l) i).2 ⟨hi, (less_bit _ _ _).2 ⟨hpw q hq i hi, hb⟩⟩
        rw [hz] at this
        simp at this
      · rfl
    have hfd := (leftF_found l (pointsP m.vars c) (0, 0, false)).2 (Or.inr ⟨q, hq, hql⟩)
    unfold leftP at h0
    rw [if_pos hfd] at h0
    have hst0 : ∀ i, (leftF l (pointsP m.vars c) (0, 0, false)).2.1.testBit i = false := fun i => by
      have := congrArg (fun z => Nat.testBit z i) h0
      simp only [Nat.testBit_or, Nat.zero_testBit, Bool.or_eq_false_iff] at this
      exact this.2
    have hsc0 : (leftF l (pointsP m.vars c) (0, 0, false)).1 = 0 := by
      rcases leftF_scope l (pointsP m.vars c) (0, 0, false) with h1 | ⟨h1, h2⟩
      · exact h1
      · apply Nat.eq_of_testBit_eq
        intro i
        rw [Nat.zero_testBit]
        cases hb : (leftF l (pointsP m.vars c) (0, 0, false)).1.testBit i
        · rfl
        · have := (leftF_stay l i (pointsP m.vars c) (0, 0, false)).2 (Or.inr ⟨_, h1, h2, hb⟩)
          rw [hst0 i] at this
          cases this
    rw [hsc0] at h0
    obtain ⟨i, hi⟩ := bit_of_ne hl0
    have := congrArg (fun z => Nat.testBit z i) h0
    simp only [Nat.testBit_or, Nat.zero_testBit, Bool.or_eq_false_iff] at this
    have h3 := (clr_bit i (0 + 1) 0 l (by omega) (by decide)).2 ⟨hi, fun j hj => by simp at hj⟩
    rw [h3] at this
    cases this.1
  · intro b hbl hba hne
    unfold saysP
    rw [Bool.or_eq_true]
    right
    rw [Bool.not_eq_true', List.any_eq_false]
    intro q hq hst
    unfold stayP at hst
    have hz : q &&& (heldP m.vars [(⟨((b / 6 : Nat) : Int), 4, (varAt m.vars (b / 6)).lo + ((b % 6 : Nat) : Int)⟩ : MLit)] ||| lessN (wholeP m.vars) l) = 0 := by simpa using hst
    have hno : ∀ i, q.testBit i = true → (heldP m.vars [(⟨((b / 6 : Nat) : Int), 4, (varAt m.vars (b / 6)).lo + ((b % 6 : Nat) : Int)⟩ : MLit)]).testBit i = false ∧ (lessN (wholeP m.vars) l).testBit i = false := fun i hi => by
      have := congrArg (fun z => Nat.testBit z i) hz
      simp only [Nat.testBit_and, Nat.testBit_or, hi, Bool.true_and, Nat.zero_testBit, Bool.or_eq_false_iff] at this
      exact this
    have hql : lessN q l = 0 := (less_zero _ _).2 fun i hi => by
      cases hb : l.testBit i
      · have := (hno i hi).2
        rw [(less_bit _ _ _).2 ⟨hpw q hq i hi, hb⟩] at this
        cases this
      · rfl
    have hfd := (leftF_found l (pointsP m.vars c) (0, 0, false)).2 (Or.inr ⟨q, hq, hql⟩)
    unfold leftP at hba
    rw [if_pos hfd, Nat.testBit_or, Bool.or_eq_false_iff] at hba
    have hbq : q.testBit b = false := by
      cases hb : q.testBit b
      · rfl
      · have := (leftF_stay l b (pointsP m.vars c) (0, 0, false)).2 (Or.inr ⟨q, hq, hql, hb⟩)
        rw [hba.2] at this
        cases this
    -- the value's variable is one of the constraint's
    have hin : ∃ s ∈ pointsP m.vars c, ∃ j, s.testBit j = true ∧ j / 6 = b / 6 := by
      apply Classical.byContradiction
      intro hn
      have := (clr_bit b _ _ l (Nat.lt_succ_self _) (left_scope_lt (pointsP m.vars c) l h36)).2 ⟨hbl, fun j hj he => by
        rcases leftF_scope l (pointsP m.vars c) (0, 0, false) with h1 | ⟨h1, _⟩
        · rw [h1] at hj; simp at hj
        · exact hn ⟨_, h1, j, hj, he⟩⟩
      rw [hba.1] at this
      cases this
    obtain ⟨s, hs, j2, hj, hj6⟩ := hin
    rcases points_scope m.vars hv c _ _ _ s hs j2 hj with h4 | ⟨v, hv1, h4⟩
    · simp at h4
    · obtain ⟨u, _, _, l3, _, _, l6⟩ := points_back m.vars c _ _ _ q k1 (by simp [zerosOf]) hq
      have hbit := l6 v hv1
      have h3 := l3 v hv1
      have h6 := hv.2 v.toNat
      unfold sizeV at h6
      have hw := hpw q hq _ hbit
      have h5 := (hno _ hbit).1
      have hdiv : (6 * v.toNat + (valAt u v - (varAt m.vars v.toNat).lo).toNat) / 6 = b / 6 := by omega
      have hneb : 6 * v.toNat + (valAt u v - (varAt m.vars v.toNat).lo).toNat ≠ b := fun he => by
        rw [he, hbq] at hbit
        cases hbit
      rw [(ne_held m.vars hv b _ (hlw b hbl)).2 ⟨hw, hdiv, hneb⟩] at h5
      cases h5
/-- Each reason is right by itself. -/
theorem reasons_right (m : Mod) (hm : checkM m = 0) (cs : List Nat) (h : Nat) : ∀ x ∈ reasonsP m.vars cs (ptsM m) h, ∃ (k : Nat) (c : MCon), m.cons[k]? = some c ∧ x.1.kind = 1 ∧ x.1.con = (k : Int) ∧ x.2 = heldP m.vars x.1.cla ∧ saysP m.vars (pointsP m.vars c) x.2 = true := by
  intro x hx
  have hv := vars_okP m hm
  obtain ⟨t, ht, hx⟩ := List.mem_flatMap.1 hx
  obtain ⟨⟨pts, hp, ha⟩, hsub, hne, hdif⟩ := tells_ok m.vars hv cs (ptsM m) h t ht
  obtain ⟨c, hc, hpc⟩ : ∃ c, m.cons[t.1]? = some c ∧ pointsP m.vars c = pts := by
    unfold ptsM at hp
    rw [List.getElem?_map] at hp
    obtain ⟨c, h1, h2⟩ := Option.map_eq_some_iff.1 hp
    exact ⟨c, h1, h2⟩
  have hgd : (ptsM m).getD t.1 [] = pts := by rw [List.getD_eq_getElem?_getD, hp]; rfl
  have hgw : SubP (lessN (wholeP m.vars) t.2.1) (wholeP m.vars) := fun i hi => ((less_bit _ _ _).1 hi).1
  obtain ⟨s1, s2⟩ := left_says m hm t.1 c hc t.2.1 hsub hne
  rw [hpc] at s1 s2
  have say : ∀ (any : Cla), saysP m.vars pts (heldP m.vars any ||| lessN (wholeP m.vars) t.2.1) = true → saysP m.vars pts (heldP m.vars (whyP m.vars pts any (lessN (wholeP m.vars) t.2.1))) = true := fun any hs => by
    rw [(why_held m.vars hv pts any _ hgw).1]
    exact spare_says (fun g => saysP m.vars pts (heldP m.vars any ||| g)) _ _ _ hs
  unfold reasonsT at hx
  rw [hgd] at hx
  by_cases h0 : t.2.2 = 0
  · rw [if_pos h0] at hx
    rw [List.mem_singleton.1 hx]
    refine ⟨t.1, c, hc, rfl, rfl, rfl, ?_⟩
    rw [hpc]
    exact say [] (s1 (by rw [← ha]; exact h0))
  · rw [if_neg h0] at hx
    obtain ⟨lt, hlt, rfl⟩ := List.mem_map.1 hx
    unfold litsP at hlt
    obtain ⟨b, hb, rfl⟩ := List.mem_map.1 hlt
    unfold bitsL at hb
    obtain ⟨b1, b2⟩ := (less_bit _ _ _).1 (List.mem_filter.1 hb).2
    refine ⟨t.1, c, hc, rfl, rfl, rfl, ?_⟩
    rw [hpc]
    exact say _ (s2 b b1 (by rw [← ha]; exact b2) (by rw [← ha]; exact h0))
end Go.Proofs.YtdjbejlbmaiocagGreatDoor
/-
  WALKS: package truth: OneOf.
-/
namespace Go.Proofs.YtdjbejlbmaiocagGreatDoor
open Go.RowKit

set_option maxHeartbeats 400000 in
set_option maxRecDepth 100000 in
theorem ofv_any (l : MLit) (x z : Int) (b1 b2 : Nat) (w : World) (h1 : w.cell? ⟨b1, 0, none⟩ = some (.int .i64 x)) (h2 : w.cell? ⟨b2, 0, none⟩ = some (.int .i64 z)) :
    Calls Tryz.prog 248 #[.agg #[.int .i64 l.var, .int .i64 l.op, .int .i64 l.n], .pointer (some ⟨b1, 0, none⟩), .pointer (some ⟨b2, 0, none⟩)] w fun e w' => e = .returned (.bool (decide (l.var = x) && litV z l)) ∧ Below w.heap.size w w' := by
  have l1 : b1 < w.heap.size := World.block_lt_of_cell? w _ h1
  have l2 : b2 < w.heap.size := World.block_lt_of_cell? w _ h2
  by_cases hq : l.var = x
  · have g0 : (l.var == x) = true := by simpa using hq
    have HN : Hid ((decide (l.var = x) && litV z l) = litV z l) := by show _ = _; rw [decide_eq_true hq]; rfl
    rw [HN.out]
    clear hq
    go_enter Tryz.func248, Tryz.ntmps248
    go_wp2_with fail
    refine (lit_true l z _).mono ?_
    rintro e w1 ⟨rfl, hb1⟩
    have hb2 : Below w.heap.size w w1 := (below_alloc _ _).trans (hb1.mono (by simp))
    clear hb1
    go_wp2
    go_ret
    exact ⟨rfl, hb2⟩
  · have g0 : (l.var == x) = false := by simpa using hq
    have HN : Hid ((decide (l.var = x) && litV z l) = false) := by show _ = _; rw [decide_eq_false hq]; rfl
    rw [HN.out]
    clear hq
    go_enter Tryz.func248, Tryz.ntmps248
    go_wp2
    go_ret
    exact ⟨rfl, below_alloc _ _⟩
theorem enters_ofv (args : Array Value) (w' : World) : Sem.run Tryz.prog (callFunc 248 args) w' = .ok (.enter 248 args) w' := by
  simp [callFunc, go_sem, Tryz.func248, Tryz.f248]

set_option maxHeartbeats 400000 in
set_option maxRecDepth 100000 in
theorem one_of (c : Cla) (k : Nat) (z : Int) (u : Value) (w : World) (hu : LArg w u c) :
    Calls Tryz.prog 189 #[u, .int .i64 k, .int .i64 z] w fun e w' => e = .returned (.bool (oneB c k z)) ∧ Below w.heap.size w w' := by
  have HUA : Hid (∀ w' : World, Below w.heap.size w w' → LArg w' u c) := fun w' h => LArg.below h hu
  obtain ⟨a1, c1, rfl, _, _⟩ := hu
  go_enter Tryz.func189, Tryz.ntmps189
  go_wp2_with fail
  refine (containsf_lits 248 _ (fun l => decide (l.var = (k : Int)) && litV z l) c _ _ (HUA.out _ ((below_alloc _ _).alloc (by simp) _)) ⟨enters_ofv, ?_⟩).mono ?_
  · intro l w' hl hb'
    refine ofv_any l k z w.heap.size (w.heap.size + 1) w' ?_ ?_
    · exact (hb'.cell (by simp; omega)).trans ((World.cell?_alloc_past _ _ _ (by simp)).trans (World.cell?_alloc_at _ _ _ 0 (by simp)))
    · exact (hb'.cell (by simp)).trans (World.cell?_alloc_at _ _ _ 0 (by simp))
  rintro e w3 ⟨rfl, hb3⟩
  have hb4 : Below w.heap.size w w3 := ((below_alloc _ _).alloc (by simp) _).trans (hb3.mono (by simp; omega))
  clear hb3
  go_wp2
  go_ret
  exact ⟨rfl, hb4⟩
end Go.Proofs.YtdjbejlbmaiocagGreatDoor
/-
  WALKS: package fence: one value; those that are told; lacking; the field of the first variable.
-/
namespace Go.Proofs.YtdjbejlbmaiocagGreatDoor
open Go.RowKit

theorem var_at {vs : List MVar} {v : Nat} (h : v < vs.length) : vs[v]? = some (varAt vs v) := by
  unfold varAt; rw [List.getD_eq_getElem?_getD, List.getElem?_eq_getElem h]; rfl
theorem shl_one (c : Int) (k : Nat) (h : c = (k : Int)) (hk : k < 64) : IntKind.u64.wrap (2 ^ c.toNat) = ((2 ^ k : Nat) : Int) := by
  rw [IntKind.wrap_u64, h, Int.toNat_natCast]
  have h1 : (2 : Nat) ^ k < 2 ^ 64 := Nat.pow_lt_pow_right (by omega) hk
  have e : ((2 : Int) ^ k) = ((2 ^ k : Nat) : Int) := by simp
  rw [e]
  exact Int.emod_eq_of_lt (Int.natCast_nonneg _) (Int.ofNat_lt.2 h1)

set_option maxHeartbeats 400000 in
set_option maxRecDepth 100000 in
theorem one_any (vs : List MVar) (hvo : VarsOk vs) (v : Nat) (x : Int) (sv : Value) (w : World) (hv : VArg w sv vs) (hl : v < vs.length) (h1 : (varAt vs v).lo ≤ x) (h2 : x ≤ (varAt vs v).hi) (h3 : -50 ≤ (varAt vs v).lo ∧ (varAt vs v).hi ≤ 50) :
    Calls Tryz.prog 186 #[sv, .int .i64 v, .int .i64 x] w fun e w' => e = .returned (.int .u64 ((2 ^ (6 * v + (x - (varAt vs v).lo).toNat) : Nat) : Int)) ∧ w' = w := by
  obtain ⟨a, c, rfl, hm, hr⟩ := hv
  obtain ⟨_, b, off, rfl, hb, c0, c1, c2⟩ := hr v _ (var_at hl)
  unfold maxLen at hm
  obtain ⟨hm1, hm⟩ := hm
  have h6 := hvo.1
  have hs := hvo.2 v
  unfold sizeV at hs
  obtain ⟨lo, hlo⟩ : ∃ lo, (varAt vs v).lo = lo := ⟨_, rfl⟩
  rw [hlo] at h1 h3 hs c1 ⊢
  have HK : Hid (IntKind.u64.wrap (2 ^ ((v : Int) * 6 + x - lo).toNat) = ((2 ^ (6 * v + (x - lo).toNat) : Nat) : Int)) := shl_one _ _ (by omega) (by omega)
  have hsh : (0 : Int) ≤ (v : Int) * 6 + x - lo := by omega
  have hsl : (v : Int) * 6 + x - lo ≤ 64 := by omega
  clear hr hs hlo
  go_enter Tryz.func186, Tryz.ntmps186
  go_wp2
  go_ret
  exact ⟨ret_int HK.out, rfl⟩
/-- A closure over a variable and a value that only reads what is old. -/
def ClosF (F : Nat) (caps : Array Value) (vs : List MVar) (p : Nat → Int → Bool) (w : World) : Prop :=
  (∀ (args : Array Value) (w' : World), Sem.run Tryz.prog (callFunc F args) w' = .ok (.enter F args) w') ∧
  ∀ (k : Nat) (z : Int) (w' : World), k < vs.length → (varAt vs k).lo ≤ z → z ≤ (varAt vs k).hi → Below w.heap.size w w' → Calls Tryz.prog F (#[.int .i64 k, .int .i64 z] ++ caps) w' fun e w'' => e = .returned (.bool (p k z)) ∧ Below w'.heap.size w' w''
/-- As variables lie: few, with few values, none of them far. -/
def VarsAll (vs : List MVar) : Prop := VarsOk vs ∧ ∀ v : Nat, v < vs.length → -50 ≤ (varAt vs v).lo ∧ (varAt vs v).hi ≤ 50 ∧ (varAt vs v).lo ≤ (varAt vs v).hi
theorem vars_all (m : Mod) (hm : checkM m = 0) : VarsAll m.vars := ⟨vars_okP m hm, fun v hv => by
  have := var_ok m hm v _ (var_at hv)
  omega⟩
theorem or_lt36 {a b : Nat} (ha : a < 2 ^ 36) (hb : b < 2 ^ 36) : a ||| b < 2 ^ 36 := Nat.or_lt_two_pow ha hb
theorem pow_lt36 (vs : List MVar) (hv : VarsAll vs) (v k : Nat) (h : v < vs.length) (hk : k < sizeV (varAt vs v)) : 2 ^ (6 * v + k) < 2 ^ 36 := by
  have h1 := hv.1.1
  have h2 := hv.1.2 v
  exact Nat.pow_lt_pow_right (by omega) (by omega)
theorem row_lt36 (vs : List MVar) (hv : VarsAll vs) (f : Int → Bool) (v k : Nat) (h : v < vs.length) (hk : k ≤ sizeV (varAt vs v)) : rowP f (6 * v) (varAt vs v).lo k < 2 ^ 36 := by
  have h1 := hv.1.1
  have h2 := hv.1.2 v
  apply Nat.lt_pow_two_of_testBit
  intro i hi
  rw [testBit_row]
  have : ¬ (i < 6 * v + k) := by omega
  simp [this]

theorem rowP_skip (f : Int → Bool) (b : Nat) (lo : Int) (k : Nat) (h : f (lo + (k : Int)) = false) : rowP f b lo (k + 1) = rowP f b lo k := by
  show (if f (lo + (k : Int)) then _ else _) = _
  rw [h]; rfl
theorem rowP_put (f : Int → Bool) (b : Nat) (lo : Int) (k : Nat) (h : f (lo + (k : Int)) = true) : rowP f b lo (k + 1) = rowP f b lo k ||| 2 ^ (b + k) := by
  show (if f (lo + (k : Int)) then _ else _) = _
  rw [h]; rfl

set_option maxHeartbeats 800000 in
set_option maxRecDepth 100000 in
theorem of_any (F : Nat) (caps : Array Value) (vs : List MVar) (p : Nat → Int → Bool) (hva : VarsAll vs) (sv : Value) (w : World) (hv : VArg w sv vs) (hF : ClosF F caps vs p w) :
    Calls Tryz.prog 187 #[sv, .func (.func F) #[] caps] w fun e w' => e = .returned (.int .u64 ((ofP vs p : Nat) : Int)) ∧ Below w.heap.size w w' := by
  have HVA : Hid (∀ w' : World, Below w.heap.size w w' → VArg w' sv vs) := fun w' h => VArg.below h hv
  obtain ⟨a, c, rfl, hm, hr⟩ := hv
  have HV : Hid (∀ (i : Nat) (t : MVar), vs[i]? = some t → t.name.size ≤ maxLen ∧ ∃ b off, a = some ⟨b, off, none⟩ ∧ b < w.heap.size ∧
    w.cell? ⟨b, off + i * 3, none⟩ = some (.string t.name) ∧ w.cell? ⟨b, off + i * 3 + 1, none⟩ = some (.int .i64 t.lo) ∧ w.cell? ⟨b, off + i * 3 + 2, none⟩ = some (.int .i64 t.hi)) := hr
  have HF : Hid (ClosF F caps vs p w) := hF
  have HVO : Hid (VarsAll vs) := hva
  have h6 := hva.1.1
  unfold maxLen at hm
  obtain ⟨hm1, hm⟩ := hm
  clear hr hF hva
  go_enter Tryz.func187, Tryz.ntmps187
  go_wp2_with fail
  go_loopw [5, 11] (fun o i wr => ∃ k : Nat, k ≤ vs.length ∧ i = .int .i64 k ∧ o = .int .u64 ((ofN vs p k : Nat) : Int) ∧ Below w.heap.size w wr) (fun _ i _ => vs.length - (intOf i).toNat)
  case atStart => exact ⟨0, by omega, rfl, rfl, Below.refl _ _⟩
  case round =>
    obtain ⟨k, hk, rfl, rfl, hbw⟩ := hrel
    have HBW : Hid (Below w.heap.size w wr) := hbw
    clear hbw
    by_cases hlt : k < vs.length
    · obtain ⟨hnm, b, off, ha, hb, q0, q1, q2⟩ := HV.out k _ (var_at hlt)
      subst ha
      have hbn := HVO.out.2 k hlt
      have hsz := HVO.out.1.2 k
      have HSZ : Hid (sizeV (varAt vs k) = ((varAt vs k).hi + 1 - (varAt vs k).lo).toNat) := rfl
      obtain ⟨n, hn⟩ : ∃ n, sizeV (varAt vs k) = n := ⟨_, rfl⟩
      have HN : Hid (sizeV (varAt vs k) = n) := hn
      have hnn : (n : Int) = (varAt vs k).hi + 1 - (varAt vs k).lo := by
        have := HSZ.out
        omega
      have hn6 : n ≤ 6 := by omega
      have hc0 := (HBW.out.cell (p := ⟨b, off + k * 3, none⟩) hb).trans q0
      have hc1 := (HBW.out.cell (p := ⟨b, off + k * 3 + 1, none⟩) hb).trans q1
      have hc2 := (HBW.out.cell (p := ⟨b, off + k * 3 + 2, none⟩) hb).trans q2
      obtain ⟨lo, hlo⟩ : ∃ lo, (varAt vs k).lo = lo := ⟨_, rfl⟩
      obtain ⟨hi, hhi⟩ : ∃ hi, (varAt vs k).hi = hi := ⟨_, rfl⟩
      have HLO : Hid ((varAt vs k).lo = lo) := hlo
      have HHI : Hid ((varAt vs k).hi = hi) := hhi
      rw [hlo] at hc1 hbn hnn
      rw [hhi] at hc2 hbn hnn
      obtain ⟨nm, hnm2⟩ : ∃ nm, (varAt vs k).name = nm := ⟨_, rfl⟩
      rw [hnm2] at hc0
      have HO : Hid (ofN vs p (k + 1) = ofN vs p k ||| rowP (p k) (6 * k) lo n) := by show _ = _; rw [← hlo, ← hn]; rfl
      have HO36 : Hid (ofN vs p k < 2 ^ 36) := ofN_lt vs HVO.out.1 p k (by omega)
      have HROW : Hid (∀ j, j ≤ n → rowP (p k) (6 * k) lo j < 2 ^ 36) := fun j hj => by rw [← hlo]; exact row_lt36 vs HVO.out (p k) k j hlt (by omega)
      have HPOW : Hid (∀ j, j < n → 2 ^ (6 * k + j) < 2 ^ 36) := fun j hj => pow_lt36 vs HVO.out k j hlt (by omega)
      clear q0 q1 q2 hsz hn hlo hhi hnm hnm2 HSZ
      have hbs := HBW.out.size
      obtain ⟨B, hB⟩ : ∃ B, wr.heap.size = B := ⟨_, rfl⟩
      obtain ⟨o0, ho0⟩ : ∃ o0, ofN vs p k = o0 := ⟨_, rfl⟩
      have HO0 : Hid (ofN vs p k = o0) := ho0
      rw [ho0] at HO HO36 ⊢
      clear ho0
      have HVO2 : Hid (VarsOk vs) := HVO.out.1
      have hlk : (varAt vs k).lo = lo := HLO.out
      have HONE : Hid (∀ (j : Nat) (w' : World), j < n → Below w.heap.size w w' → Calls Tryz.prog 186 #[.slice (some ⟨b, off, none⟩) vs.length c, .int .i64 k, .int .i64 (lo + (j : Int))] w' fun e w'' => e = .returned (.int .u64 ((2 ^ (6 * k + j) : Nat) : Int)) ∧ w'' = w') := by
        intro j w' hj hb'
        have h1 := one_any vs HVO2.out k (lo + (j : Int)) _ w' (HVA.out w' hb') hlt (by rw [HLO.out]; omega) (by rw [HHI.out]; omega) (by rw [HLO.out, HHI.out]; omega)
        rw [HLO.out, show (lo + (j : Int) - lo).toNat = j by omega] at h1
        exact h1
      have HCLO : Hid (∀ (j : Nat) (w' : World), j < n → Below w.heap.size w w' → Calls Tryz.prog F (#[.int .i64 k, .int .i64 (lo + (j : Int))] ++ caps) w' fun e w'' => e = .returned (.bool (p k (lo + (j : Int)))) ∧ Below w'.heap.size w' w'') := by
        intro j w' hj hb'
        exact HF.out.2 k _ w' hlt (by rw [HLO.out]; omega) (by rw [HHI.out]; omega) hb'
      clear hlk
      go_wp2_with fail
      have HB : Hid (wr.heap.size = B) := hB
      have HB0 : Hid (Below w.heap.size w (wr.alloc (.cells #[.string nm, .int .i64 lo, .int .i64 hi] 71))) := HBW.out.alloc hbs _
      have HC2 : Hid ((wr.alloc (.cells #[.string nm, .int .i64 lo, .int .i64 hi] 71)).cell? ⟨B, 2, none⟩ = some (.int .i64 hi)) := by show _ = _; rw [← hB]; exact World.cell?_alloc_at _ _ _ 2 (by simp)
      have HW : Hid (w.heap.size ≤ B) := by rw [← hB]; exact hbs
      obtain ⟨W1, hW1⟩ : ∃ W1, wr.alloc (.cells #[.string nm, .int .i64 lo, .int .i64 hi] 71) = W1 := ⟨_, rfl⟩
      rw [hW1] at HB0 HC2 ⊢
      have HW1 : Hid (W1.heap.size = B + 1) := by show _ = _; rw [← hW1, ← hB]; simp
      clear hc0 hc1 hc2 hB hW1 hbs
      go_loopw [5, 8] (fun o i wr => ∃ j : Nat, j ≤ n ∧ i = .int .i64 (lo + (j : Int)) ∧ o = .int .u64 ((o0 ||| rowP (p k) (6 * k) lo j : Nat) : Int) ∧ Below W1.heap.size W1 wr) (fun _ i _ => (hi + 1 - intOf i).toNat)
      case atStart => exact ⟨0, by omega, by simp, by simp [rowP], Below.refl _ _⟩
      case round =>
        obtain ⟨j, hj, rfl, rfl, hbw2⟩ := hrel
        have hcc := (hbw2.cell (p := ⟨B, 2, none⟩) (by rw [HW1.out]; simp)).trans HC2.out
        have HBN : Hid (Below w.heap.size w wr) := HB0.out.trans (hbw2.mono (by rw [HW1.out]; have := HW.out; omega))
        have HBW2 : Hid (Below W1.heap.size W1 wr) := hbw2
        clear hbw2
        by_cases hlj : j < n
        · have hle : lo + (j : Int) ≤ hi := by omega
          have HCALL := HCLO.out j wr hlj HBN.out
          cases hq : p k (lo + (j : Int))
          · have HNX : Hid (rowP (p k) (6 * k) lo (j + 1) = rowP (p k) (6 * k) lo j) := rowP_skip _ _ _ _ hq
            obtain ⟨q, hqq⟩ : ∃ q, o0 ||| rowP (p k) (6 * k) lo j = q := ⟨_, rfl⟩
            have HQ : Hid (o0 ||| rowP (p k) (6 * k) lo j = q) := hqq
            rw [hqq]
            have HC3 : Hid (Calls Tryz.prog F (#[.int .i64 k, .int .i64 (lo + (j : Int))] ++ caps) wr fun e w'' => e = .returned (.bool false) ∧ Below wr.heap.size wr w'') := by rw [← hq]; exact HCALL
            clear hqq HCALL hq
            go_wp2_with fail
            rw [HF.out.1, Oper.upon_enter]
            refine HC3.out.mono ?_
            rintro e w1 ⟨rfl, hb1⟩
            have HB3 : Hid (Below W1.heap.size W1 w1) := HBW2.out.trans (hb1.mono HBW2.out.size)
            clear hb1 hcc
            go_wp2
            go_roundw
            case rel => exact ⟨j + 1, by omega, by go_num, by rw [HNX.out, HQ.out], HB3.out⟩
            case measure => simp [intOf]; omega
          · have HNX : Hid (rowP (p k) (6 * k) lo (j + 1) = rowP (p k) (6 * k) lo j ||| 2 ^ (6 * k + j)) := rowP_put _ _ _ _ hq
            obtain ⟨q, hqq⟩ : ∃ q, o0 ||| rowP (p k) (6 * k) lo j = q := ⟨_, rfl⟩
            have hq36 : q < 2 ^ 36 := by rw [← hqq]; exact or_lt36 HO36.out (HROW.out j hj)
            have hp36 := HPOW.out j hlj
            have HQ : Hid (o0 ||| rowP (p k) (6 * k) lo (j + 1) = q ||| 2 ^ (6 * k + j)) := by show _ = _; rw [HNX.out, ← hqq, Nat.or_assoc]
            rw [hqq]
            have HC3 : Hid (Calls Tryz.prog F (#[.int .i64 k, .int .i64 (lo + (j : Int))] ++ caps) wr fun e w'' => e = .returned (.bool true) ∧ Below wr.heap.size wr w'') := by rw [← hq]; exact HCALL
            have HO1 := HONE
            obtain ⟨t, ht⟩ : ∃ t, 2 ^ (6 * k + j) = t := ⟨_, rfl⟩
            have HT : Hid (2 ^ (6 * k + j) = t) := ht
            rw [ht] at HQ hp36
            have hor := bits_or_u64_nat q t (by omega) (by omega)
            clear hqq HCALL hq ht hq36 hp36
            go_wp2_with fail
            rw [HF.out.1, Oper.upon_enter]
            refine HC3.out.mono ?_
            rintro e w1 ⟨rfl, hb1⟩
            have HB3 : Hid (Below W1.heap.size W1 w1) := HBW2.out.trans (hb1.mono HBW2.out.size)
            have HBN3 : Hid (Below w.heap.size w w1) := HBN.out.trans (hb1.mono HBN.out.size)
            clear hb1 hcc
            go_wp2_with fail
            refine (HONE.out j w1 hlj HBN3.out).mono ?_
            rintro e w2 ⟨rfl, rfl⟩
            rw [HT.out]
            go_wp2
            go_roundw
            case rel => exact ⟨j + 1, by omega, by go_num, by rw [HQ.out], HB3.out⟩
            case measure => simp [intOf]; omega
        · have hle : ¬ (lo + (j : Int) ≤ hi) := by omega
          have hjn : j = n := by omega
          have HNX : Hid (o0 ||| rowP (p k) (6 * k) lo j = ofN vs p (k + 1)) := by show _ = _; rw [HO.out, hjn]
          clear hjn
          obtain ⟨q, hqq⟩ : ∃ q, o0 ||| rowP (p k) (6 * k) lo j = q := ⟨_, rfl⟩
          rw [hqq] at HNX ⊢
          clear hqq
          go_wp2
          go_roundw
          case rel => exact ⟨k + 1, by omega, by go_num, by rw [HNX.out], HBN.out⟩
          case measure => simp [intOf]; omega
    · have hke : k = vs.length := by omega
      subst hke
      go_wp2
      go_ret
      exact ⟨rfl, HBW.out⟩
theorem shr_and (p k : Nat) (hp : p < 2 ^ 36) : bits .and .u64 ((p : Int) / 2 ^ (k * 6)) 63 = ((p / 2 ^ (k * 6) &&& 63 : Nat) : Int) := by
  have e2 : (p : Int) / 2 ^ (k * 6) = ((p / 2 ^ (k * 6) : Nat) : Int) := by simp
  rw [e2]
  have h1 : p / 2 ^ (k * 6) ≤ p := Nat.div_le_self _ _
  exact bits_and_u64_nat _ 63 (by omega) (by omega)
theorem lack_hit (n p k : Nat) (h : k < n) (h0 : p / 2 ^ (k * 6) &&& 63 = 0) : lackP n p = true := by
  unfold lackP
  exact List.any_eq_true.2 ⟨k, List.mem_range.2 h, by simp [h0]⟩
theorem lack_none (n p : Nat) (h : ∀ k, k < n → p / 2 ^ (k * 6) &&& 63 ≠ 0) : lackP n p = false := by
  cases hl : lackP n p
  · rfl
  · unfold lackP at hl
    obtain ⟨v, hv, hb⟩ := List.any_eq_true.1 hl
    exact absurd (by simpa using hb) (h v (List.mem_range.1 hv))

set_option maxHeartbeats 400000 in
set_option maxRecDepth 100000 in
theorem lacking_any (vs : List MVar) (hn : vs.length ≤ 6) (p : Nat) (hp : p < 2 ^ 36) (sv : Value) (w : World) (hv : VArg w sv vs) :
    Calls Tryz.prog 182 #[sv, .int .u64 p] w fun e w' => e = .returned (.bool (lackP vs.length p)) ∧ w' = w := by
  obtain ⟨a, c, rfl, hm, _⟩ := hv
  unfold maxLen at hm
  obtain ⟨hm1, hm⟩ := hm
  obtain ⟨R, hR⟩ : ∃ R, lackP vs.length p = R := ⟨_, rfl⟩
  rw [hR]
  have HR : Hid (lackP vs.length p = R) := hR
  clear hR
  have HP : Hid (p < 2 ^ 36) := hp
  clear hp
  go_enter Tryz.func182, Tryz.ntmps182
  go_wp2_with fail
  go_loopw [8] (fun i wr => ∃ k : Nat, k ≤ vs.length ∧ i = .int .i64 k ∧ Hid (∀ j, j < k → p / 2 ^ (j * 6) &&& 63 ≠ 0) ∧ wr = w) (fun i _ => vs.length - (intOf i).toNat)
  case atStart => exact ⟨0, by omega, rfl, fun j h => by omega, rfl⟩
  case round =>
    obtain ⟨k, hk, rfl, hall, rfl⟩ := hrel
    by_cases hlt : k < vs.length
    · obtain ⟨q, hq⟩ : ∃ q, p / 2 ^ (k * 6) &&& 63 = q := ⟨_, rfl⟩
      have hb := shr_and p k HP.out
      rw [hq] at hb
      have HQ : Hid (p / 2 ^ (k * 6) &&& 63 = q) := hq
      clear hq
      have h2 : (0 : Int) ≤ (k : Int) * 6 := by omega
      by_cases h0 : q = 0
      · have HN : Hid (R = true) := by show _ = _; rw [← HR.out]; exact lack_hit _ _ k hlt (by rw [HQ.out]; exact h0)
        subst h0
        go_wp2
        go_ret
        exact ⟨ret_bool HN.out.symm, rfl⟩
      · have HN : Hid (∀ j, j < k + 1 → p / 2 ^ (j * 6) &&& 63 ≠ 0) := fun j hj => by
          by_cases hjk : j = k
          · subst hjk; rw [HQ.out]; exact h0
          · exact hall.out j (by omega)
        have h0' : ((q : Int) == 0) = false := by simpa using h0
        clear hall
        go_wp2
        go_roundw
        case rel => exact ⟨k + 1, by omega, by go_num, HN, trivial⟩
        case measure => simp [intOf]; omega
    · have hke : k = vs.length := by omega
      have HN : Hid (R = false) := by show _ = _; rw [← HR.out]; exact lack_none _ _ (by rw [← hke]; exact hall.out)
      clear hall hke
      go_wp2
      go_ret
      exact ⟨ret_bool HN.out.symm, rfl⟩
end Go.Proofs.YtdjbejlbmaiocagGreatDoor
