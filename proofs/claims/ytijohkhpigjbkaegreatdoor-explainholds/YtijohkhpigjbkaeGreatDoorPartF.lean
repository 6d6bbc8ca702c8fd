/-
  PART 6 of what the proof leans on (FolPlain, FenW, SifA, FenF, FenG, FenH, FilA, FilB, FilC, StoE).
-/
import Derived.Test.YtijohkhpigjbkaeGreatDoorPartE
import Derived.Deep.RegionHeld3
import Derived.Deep.RegionLaw
import Derived.Deep.OwnRows
import Derived.Deep.Onto
import Derived.Laws.EntriesVeiled
import Derived.Maps.OwnSet
import Derived.Maps.AppendAt
import Derived.DeepKeys4
import Derived.WalkKit
/-
  PLAIN: what one constraint leaves of values, what all rules leave till nothing changes, who is told of it; the least of a list that is enough; reasons and steps.
-/
namespace Go.Proofs.YtijohkhpigjbkaeGreatDoor

/-- Which points are of some values: the last one, all together, is there one? -/
def leftF (p : Nat) : List Nat → Nat × Nat × Bool → Nat × Nat × Bool
  | [], s => s
  | q :: r, s => leftF p r (if lessN q p = 0 then (q, s.2.1 ||| q, true) else s)
/-- Values without the fields of some. -/
def clrN : Nat → Nat → Nat → Nat
  | 0, _, p => p
  | f + 1, s, p => if s = 0 then p else clrN f (lessN s (fieldP s)) (lessN p (fieldP s))
def leftP (pts : List Nat) (p : Nat) : Nat :=
  if (leftF p pts (0, 0, false)).2.2 then clrN ((leftF p pts (0, 0, false)).1 + 1) (leftF p pts (0, 0, false)).1 p ||| (leftF p pts (0, 0, false)).2.1 else 0

theorem less_zero (q p : Nat) : lessN q p = 0 ↔ ∀ i, q.testBit i = true → p.testBit i = true := by
  constructor
  · intro h i hi
    have := congrArg (fun z => Nat.testBit z i) h
    simp only [testBit_less, hi, Nat.zero_testBit] at this
    simpa using this
  · intro h
    apply Nat.eq_of_testBit_eq
    intro i
    rw [testBit_less, Nat.zero_testBit]
    cases hq : q.testBit i
    · rfl
    · rw [h i hq]; rfl
theorem leftF_found (p : Nat) : ∀ (pts : List Nat) (s : Nat × Nat × Bool), (leftF p pts s).2.2 = true ↔ s.2.2 = true ∨ ∃ q ∈ pts, lessN q p = 0
  | [], s => by simp [leftF]
  | q :: r, s => by
    unfold leftF
    rw [leftF_found p r]
    by_cases h : lessN q p = 0
    · rw [if_pos h]
      simp [h]
    · rw [if_neg h]
      simp [h]
theorem leftF_stay (p : Nat) (i : Nat) : ∀ (pts : List Nat) (s : Nat × Nat × Bool), (leftF p pts s).2.1.testBit i = true ↔ s.2.1.testBit i = true ∨ ∃ q ∈ pts, lessN q p = 0 ∧ q.testBit i = true
  | [], s => by simp [leftF]
  | q :: r, s => by
    unfold leftF
    rw [leftF_stay p i r]
    by_cases h : lessN q p = 0
    · rw [if_pos h]
      simp only [Nat.testBit_or, Bool.or_eq_true, List.mem_cons, exists_eq_or_imp, h, true_and, or_assoc]
    · rw [if_neg h]
      simp [h]
theorem leftF_scope (p : Nat) : ∀ (pts : List Nat) (s : Nat × Nat × Bool), (leftF p pts s).1 = s.1 ∨ (leftF p pts s).1 ∈ pts ∧ lessN (leftF p pts s).1 p = 0
  | [], s => Or.inl rfl
  | q :: r, s => by
    unfold leftF
    rcases leftF_scope p r (if lessN q p = 0 then (q, s.2.1 ||| q, true) else s) with h | h
    · by_cases hq : lessN q p = 0
      · right
        rw [h, if_pos hq]
        exact ⟨List.mem_cons_self .., hq⟩
      · left
        rw [h, if_neg hq]
    · exact Or.inr ⟨List.mem_cons_of_mem _ h.1, h.2⟩
theorem field_testBit (s i : Nat) : (fieldP s).testBit i = decide (i / 6 = Lib.ctz 64 s / 6) := testBit_six _ _
theorem less_field_lt (s : Nat) (h0 : s ≠ 0) (h : s < 2 ^ 36) : lessN s (fieldP s) < s := by
  have hb := (low_bits s h0 (by omega) (Lib.ctz 64 s)).2.1 rfl
  have h1 := less_le s (fieldP s)
  have h2 : lessN s (fieldP s) ≠ s := fun he => by
    have := congrArg (fun z => Nat.testBit z (Lib.ctz 64 s)) he
    simp only [testBit_less, field_testBit, hb] at this
    simp at this
  omega
theorem clr_fuel : ∀ (f g s p : Nat), s < f → s < g → s < 2 ^ 36 → clrN f s p = clrN g s p
  | 0, g, s, p, hf, hg, _ => by omega
  | f + 1, 0, s, p, hf, hg, _ => by omega
  | f + 1, g + 1, s, p, hf, hg, h => by
    unfold clrN
    split
    · rfl
    · rename_i h0
      have := less_field_lt s h0 h
      exact clr_fuel f g _ _ (by omega) (by omega) (by omega)
theorem clr_step (s p : Nat) (h0 : s ≠ 0) (h : s < 2 ^ 36) : clrN (s + 1) s p = clrN (lessN s (fieldP s) + 1) (lessN s (fieldP s)) (lessN p (fieldP s)) := by
  conv => lhs; unfold clrN
  rw [if_neg h0]
  have := less_field_lt s h0 h
  exact clr_fuel _ _ _ _ (by omega) (by omega) (by omega)
theorem clr_bit (i : Nat) : ∀ (f s p : Nat), s < f → s < 2 ^ 36 → ((clrN f s p).testBit i = true ↔ p.testBit i = true ∧ ∀ j, s.testBit j = true → j / 6 ≠ i / 6)
  | 0, s, p, hf, _ => by omega
  | f + 1, s, p, hf, h => by
    unfold clrN
    by_cases h0 : s = 0
    · rw [if_pos h0, h0]
      simp
    · rw [if_neg h0]
      have hlt := less_field_lt s h0 h
      have hb := (low_bits s h0 (by omega) (Lib.ctz 64 s)).2.1 rfl
      rw [clr_bit i f _ _ (by omega) (by omega)]
      simp only [testBit_less, field_testBit, Bool.and_eq_true, Bool.not_eq_true', decide_eq_false_iff_not]
      constructor
      · rintro ⟨⟨h1, h2⟩, h3⟩
        refine ⟨h1, fun j hj he => ?_⟩
        by_cases hk : j / 6 = Lib.ctz 64 s / 6
        · omega
        · exact h3 j ⟨hj, hk⟩ he
      · rintro ⟨h1, h2⟩
        refine ⟨⟨h1, fun he => h2 _ hb he.symm⟩, fun j hj he => h2 j hj.1 he⟩
theorem left_bit (pts : List Nat) (p i : Nat) (hp : p < 2 ^ 36) (h : (leftP pts p).testBit i = true) : p.testBit i = true := by
  unfold leftP at h
  split at h
  · rw [Nat.testBit_or, Bool.or_eq_true] at h
    rcases h with h | h
    · have hs : (leftF p pts (0, 0, false)).1 < 2 ^ 36 := by
        rcases leftF_scope p pts (0, 0, false) with h1 | h1
        · rw [h1]; decide
        · exact Nat.lt_of_le_of_lt (Nat.le_of_testBit ((less_zero _ _).1 h1.2)) hp
      exact ((clr_bit i _ _ p (Nat.lt_succ_self _) hs).1 h).1
    · rcases (leftF_stay p i pts _).1 h with h1 | ⟨q, _, h1, h2⟩
      · simp at h1
      · exact (less_zero _ _).1 h1 i h2
  · simp at h
theorem left_le (pts : List Nat) (p : Nat) (hp : p < 2 ^ 36) : leftP pts p ≤ p := Nat.le_of_testBit fun i h => left_bit pts p i hp h
theorem left_scope_lt (pts : List Nat) (p : Nat) (hp : p < 2 ^ 36) : (leftF p pts (0, 0, false)).1 < 2 ^ 36 := by
  rcases leftF_scope p pts (0, 0, false) with h1 | h1
  · rw [h1]; decide
  · exact Nat.lt_of_le_of_lt (Nat.le_of_testBit ((less_zero _ _).1 h1.2)) hp

theorem round_bit (i : Nat) : ∀ (cs : List Nat) (left l : Nat), roundP cs left = some l → l.testBit i = true → left.testBit i = true
  | [], left, l, h, hi => by simp [roundP] at h; rw [h]; exact hi
  | c :: r, left, l, h, hi => by
    unfold roundP at h
    split at h
    · cases h
    · split at h
      · have := round_bit i r _ l h hi
        rw [testBit_less, Bool.and_eq_true] at this
        exact this.1
      · exact round_bit i r _ l h hi
theorem unitsN_bit (cs : List Nat) (i : Nat) : ∀ (f left : Nat), (unitsN cs f left).testBit i = true → left.testBit i = true
  | 0, left, h => h
  | f + 1, left, h => by
    unfold unitsN at h
    cases hr : roundP cs left with
    | none => rw [hr] at h; simp at h
    | some l =>
      rw [hr] at h
      simp only at h
      split at h
      · exact h
      · exact round_bit i cs left l hr (unitsN_bit cs i f l h)
theorem units_bit (vs : List MVar) (cs : List Nat) (p i : Nat) (h : (unitsP vs cs p).testBit i = true) : p.testBit i = true := by
  unfold unitsP at h
  split at h
  · simp at h
  · exact unitsN_bit cs i _ _ h

/-- Points are of a constraint's variables alone. -/
theorem points_scope (vs : List MVar) (hv : VarsOk vs) (c : MCon) : ∀ (r u : List Int) (a p : Nat), p ∈ pointsN vs c r u a → ∀ i, p.testBit i = true → a.testBit i = true ∨ ∃ v ∈ r, i / 6 = v.toNat
  | [], u, a, p, hp => by
    intro i hi
    unfold pointsN at hp
    split at hp
    · rw [List.mem_singleton.1 hp] at hi; exact Or.inl hi
    · cases hp
  | v :: r, u, a, p, hp => by
    intro i hi
    unfold pointsN at hp
    obtain ⟨x, hx, hp⟩ := List.mem_flatMap.1 hp
    rcases points_scope vs hv c r _ _ p hp i hi with h | ⟨w, hw, he⟩
    · rw [Nat.testBit_or, Bool.or_eq_true, testBit_pow] at h
      rcases h with h | h
      · exact Or.inl h
      · right
        refine ⟨v, List.mem_cons_self .., ?_⟩
        have h1 : 6 * v.toNat + (x - (varAt vs v.toNat).lo).toNat = i := by simpa using h
        obtain ⟨b1, b2⟩ := (mem_span_iff _ _ _).1 hx
        have h6 := hv.2 v.toNat
        unfold sizeV at h6
        omega
    · exact Or.inr ⟨w, List.mem_cons_of_mem _ hw, he⟩
/-- The point of values. -/
theorem point_of (vs : List MVar) (hv : VarsOk vs) (c : MCon) (hsc : ∀ v ∈ scopeC c, 0 ≤ v ∧ v < (vs.length : Int)) (hl : c.kind = 10 → c.lits ≠ []) (vals : List Int) (hm : MayBe vs vals) (hh : holdsC c vals = true) :
    ∃ p ∈ pointsP vs c, (∀ i, p.testBit i = true → ∃ v : Nat, v < vs.length ∧ i = posV vs vals v) ∧ ∀ v ∈ scopeC c, p.testBit (posV vs vals v.toNat) = true := by
  obtain ⟨p, hp, hb⟩ := points_have vs c vals hm (scopeC c) (zerosOf vs.length) 0 hsc (by simp [zerosOf]) (fun u' _ h2 _ => by rw [holds_scope c u' vals h2 hl]; exact hh)
  have hb' : ∀ i, p.testBit i = true → ∃ v : Nat, v < vs.length ∧ i = posV vs vals v := fun i hi => by
    rcases hb i hi with h | h
    · simp at h
    · exact h
  refine ⟨p, hp, hb', fun v hvs => ?_⟩
  obtain ⟨u, l1, l2, l3, l4, _, l6⟩ := points_back vs c _ _ _ p hsc (by simp [zerosOf]) hp
  have h1 := l6 v hvs
  obtain ⟨v', hv', he⟩ := hb' _ h1
  have h6 := hv.2 v.toNat
  have h3 := l3 v hvs
  have h7 := (pos_parts vs hv vals hm v' hv').1
  have h8 := hsc v hvs
  unfold sizeV at h6
  have : v' = v.toNat := by omega
  rw [he, this] at h1
  exact h1
/-- NO VALUES OF WHICH THE CONSTRAINT HOLDS ARE LOST. -/
theorem left_keeps (vs : List MVar) (hv : VarsOk vs) (c : MCon) (hsc : ∀ v ∈ scopeC c, 0 ≤ v ∧ v < (vs.length : Int)) (hl : c.kind = 10 → c.lits ≠ []) (vals : List Int) (hm : MayBe vs vals) (hh : holdsC c vals = true) (p : Nat) (hp36 : p < 2 ^ 36) (hw : Within vs vals p) :
    Within vs vals (leftP (pointsP vs c) p) := by
  obtain ⟨q, hq, h1, h2⟩ := point_of vs hv c hsc hl vals hm hh
  have hz : lessN q p = 0 := (less_zero _ _).2 fun i hi => by
    obtain ⟨v, hvl, rfl⟩ := h1 i hi
    exact hw v hvl
  have hf := (leftF_found p (pointsP vs c) (0, 0, false)).2 (Or.inr ⟨q, hq, hz⟩)
  intro v hvl
  unfold leftP
  rw [if_pos hf, Nat.testBit_or, Bool.or_eq_true]
  by_cases hs : (v : Int) ∈ scopeC c
  · right
    refine (leftF_stay p _ _ _).2 (Or.inr ⟨q, hq, hz, ?_⟩)
    have := h2 _ hs
    rwa [Int.toNat_natCast] at this
  · left
    refine (clr_bit _ _ _ _ (Nat.lt_succ_self _) (left_scope_lt _ _ hp36)).2 ⟨hw v hvl, fun j hj he => ?_⟩
    rw [(pos_parts vs hv vals hm v hvl).1] at he
    rcases leftF_scope p (pointsP vs c) (0, 0, false) with h3 | h3
    · rw [h3] at hj; simp at hj
    · rcases points_scope vs hv c _ _ _ _ h3.1 j hj with h4 | ⟨w, hw2, h4⟩
      · simp at h4
      · have := hsc w hw2
        refine hs ?_
        rw [show (v : Int) = w by omega]
        exact hw2

/-- What all constraints leave, one after the other, while something is left. -/
def consN : List (List Nat) → Nat → Nat
  | [], l => l
  | pts :: r, l => if l = 0 then l else consN r (leftP pts l)
/-- Who is told: which constraint, of what was there ahead, of what it leaves. -/
def consT : Nat → List (List Nat) → Nat → List (Nat × Nat × Nat)
  | _, [], _ => []
  | k, pts :: r, l => if l = 0 then [] else (if leftP pts l = l then [] else [(k, l, leftP pts l)]) ++ consT (k + 1) r (leftP pts l)
def narrowN (vs : List MVar) (cs : List Nat) (pt : List (List Nat)) : Nat → Nat → Nat
  | 0, l => l
  | f + 1, l => if consN pt (unitsP vs cs l) = l then l else narrowN vs cs pt f (consN pt (unitsP vs cs l))
def narrowT (vs : List MVar) (cs : List Nat) (pt : List (List Nat)) : Nat → Nat → List (Nat × Nat × Nat)
  | 0, _ => []
  | f + 1, l => consT 0 pt (unitsP vs cs l) ++ if consN pt (unitsP vs cs l) = l then [] else narrowT vs cs pt f (consN pt (unitsP vs cs l))
/-- What all rules leave of the values that are not held. -/
def narrowP (vs : List MVar) (cs : List Nat) (pt : List (List Nat)) (h : Nat) : Nat :=
  if lessN (wholeP vs) h = 0 then 0 else narrowN vs cs pt (lessN (wholeP vs) h + 1) (lessN (wholeP vs) h)
def tellsP (vs : List MVar) (cs : List Nat) (pt : List (List Nat)) (h : Nat) : List (Nat × Nat × Nat) :=
  if lessN (wholeP vs) h = 0 then [] else narrowT vs cs pt (lessN (wholeP vs) h + 1) (lessN (wholeP vs) h)

theorem consN_le : ∀ (pt : List (List Nat)) (l : Nat), l < 2 ^ 36 → consN pt l ≤ l
  | [], l, _ => Nat.le_refl _
  | pts :: r, l, h => by
    unfold consN
    split
    · exact Nat.le_refl _
    · have h1 := left_le pts l h
      exact Nat.le_trans (consN_le r _ (by omega)) h1
theorem narrow_le (vs : List MVar) (cs : List Nat) (pt : List (List Nat)) (l : Nat) (h : l < 2 ^ 36) : consN pt (unitsP vs cs l) ≤ l := by
  have h1 := units_le vs cs l
  exact Nat.le_trans (consN_le pt _ (by omega)) h1
theorem narrow_fuel (vs : List MVar) (cs : List Nat) (pt : List (List Nat)) : ∀ (f g l : Nat), l < f → l < g → l < 2 ^ 36 → narrowN vs cs pt f l = narrowN vs cs pt g l ∧ narrowT vs cs pt f l = narrowT vs cs pt g l
  | 0, g, l, hf, hg, _ => by omega
  | f + 1, 0, l, hf, hg, _ => by omega
  | f + 1, g + 1, l, hf, hg, h => by
    unfold narrowN narrowT
    split
    · exact ⟨rfl, rfl⟩
    · have := narrow_le vs cs pt l h
      obtain ⟨h1, h2⟩ := narrow_fuel vs cs pt f g (consN pt (unitsP vs cs l)) (by omega) (by omega) (by omega)
      exact ⟨h1, by rw [h2]⟩
theorem narrow_step (vs : List MVar) (cs : List Nat) (pt : List (List Nat)) (l : Nat) (h : l < 2 ^ 36) :
    narrowN vs cs pt (l + 1) l = (if consN pt (unitsP vs cs l) = l then l else narrowN vs cs pt (consN pt (unitsP vs cs l) + 1) (consN pt (unitsP vs cs l))) ∧
    narrowT vs cs pt (l + 1) l = consT 0 pt (unitsP vs cs l) ++ if consN pt (unitsP vs cs l) = l then [] else narrowT vs cs pt (consN pt (unitsP vs cs l) + 1) (consN pt (unitsP vs cs l)) := by
  by_cases he : consN pt (unitsP vs cs l) = l
  · constructor
    · conv => lhs; unfold narrowN
      rw [if_pos he, if_pos he]
    · conv => lhs; unfold narrowT
      rw [if_pos he, if_pos he]
  · have := narrow_le vs cs pt l h
    obtain ⟨h1, h2⟩ := narrow_fuel vs cs pt l (consN pt (unitsP vs cs l) + 1) (consN pt (unitsP vs cs l)) (by omega) (by omega) (by omega)
    constructor
    · conv => lhs; unfold narrowN
      rw [if_neg he, if_neg he, h1]
    · conv => lhs; unfold narrowT
      rw [if_neg he, if_neg he, h2]
theorem consN_keeps (vs : List MVar) (hv : VarsOk vs) (h1 : 1 ≤ vs.length) (vals : List Int) (hm : MayBe vs vals) : ∀ (pt : List (List Nat)) (l : Nat), l < 2 ^ 36 → (∀ pts ∈ pt, ∀ p, p < 2 ^ 36 → Within vs vals p → Within vs vals (leftP pts p)) → Within vs vals l → Within vs vals (consN pt l)
  | [], l, _, _, hw => hw
  | pts :: r, l, h, hk, hw => by
    unfold consN
    rw [if_neg (within_ne vs h1 vals l hw)]
    have := left_le pts l h
    exact consN_keeps vs hv h1 vals hm r _ (by omega) (fun q hq => hk q (List.mem_cons_of_mem _ hq)) (hk pts (List.mem_cons_self ..) l h hw)
theorem narrowN_keeps (vs : List MVar) (hv : VarsOk vs) (h1 : 1 ≤ vs.length) (vals : List Int) (hm : MayBe vs vals) (cs : List Nat) (hc : ∀ c ∈ cs, Hits vs vals c) (pt : List (List Nat)) (hk : ∀ pts ∈ pt, ∀ p, p < 2 ^ 36 → Within vs vals p → Within vs vals (leftP pts p)) :
    ∀ (f l : Nat), l < 2 ^ 36 → Within vs vals l → Within vs vals (narrowN vs cs pt f l)
  | 0, l, _, hw => hw
  | f + 1, l, h, hw => by
    unfold narrowN
    split
    · exact hw
    · have h2 := units_le vs cs l
      have h3 := narrow_le vs cs pt l h
      exact narrowN_keeps vs hv h1 vals hm cs hc pt hk f _ (by omega) (consN_keeps vs hv h1 vals hm pt _ (by omega) hk (units_keeps vs hv vals hm cs hc l hw))
theorem whole_lt (vs : List MVar) (hv : VarsOk vs) : wholeP vs < 2 ^ 36 := of_lt vs hv _
/-- WHERE NOTHING IS LEFT, VALUES OF WHICH ALL RULES HOLD ARE HELD. -/
theorem narrow_hits (vs : List MVar) (hv : VarsOk vs) (h1 : 1 ≤ vs.length) (vals : List Int) (hm : MayBe vs vals) (cs : List Nat) (hc : ∀ c ∈ cs, Hits vs vals c) (pt : List (List Nat)) (hk : ∀ pts ∈ pt, ∀ p, p < 2 ^ 36 → Within vs vals p → Within vs vals (leftP pts p))
    (h : Nat) (hz : narrowP vs cs pt h = 0) : Hits vs vals h := by
  apply Classical.byContradiction
  intro hn
  have hw := within_rest vs hv vals hm h hn
  unfold narrowP at hz
  rw [if_neg (within_ne vs h1 vals _ hw)] at hz
  exact within_ne vs h1 vals _ (narrowN_keeps vs hv h1 vals hm cs hc pt hk _ _ (less_lt 36 _ _ (whole_lt vs hv)) hw) hz

theorem count_parts (f g : Nat → Bool) (h : ∀ i, g i = true → f i = true) : ∀ l : List Nat, (l.filter f).length = (l.filter g).length + (l.filter fun i => f i && !g i).length
  | [] => rfl
  | a :: r => by
    have ih := count_parts f g h r
    rw [List.filter_cons, List.filter_cons, List.filter_cons]
    cases hf : f a <;> cases hg : g a
    · simpa using ih
    · rw [h a hg] at hf; cases hf
    · simp; omega
    · simp; omega
/-- How many values there are. -/
def bitsN (p : Nat) : Nat := (bitsL p).length
theorem bits_le (p : Nat) : bitsN p ≤ 36 := by
  unfold bitsN bitsL
  exact Nat.le_trans (List.length_filter_le _ _) (by simp)
theorem bits_sub (a b : Nat) (h : ∀ i, a.testBit i = true → b.testBit i = true) : bitsN a ≤ bitsN b := by
  unfold bitsN bitsL
  rw [count_parts (fun i => b.testBit i) (fun i => a.testBit i) h]
  omega
theorem bits_less (a b : Nat) (hb : b < 2 ^ 36) (h : ∀ i, a.testBit i = true → b.testBit i = true) (hne : a ≠ b) : bitsN a + 1 ≤ bitsN b := by
  unfold bitsN bitsL
  rw [count_parts (fun i => b.testBit i) (fun i => a.testBit i) h]
  have : ((List.range 36).filter fun i => b.testBit i && !a.testBit i) ≠ [] := fun hn => by
    refine hne (Nat.eq_of_testBit_eq fun i => ?_)
    by_cases hi : i < 36
    · have := List.filter_eq_nil_iff.1 hn i (List.mem_range.2 hi)
      cases ha : a.testBit i <;> cases hbb : b.testBit i
      · rfl
      · rw [ha, hbb] at this; simp at this
      · rw [h i ha] at hbb; cases hbb
      · rfl
    · have h1 : b.testBit i = false := Nat.testBit_lt_two_pow (Nat.lt_of_lt_of_le hb (Nat.pow_le_pow_right (by omega) (by omega)))
      cases ha : a.testBit i
      · exact h1.symm
      · rw [h i ha] at h1; cases h1
  have := List.length_pos_iff.2 this
  omega
/-- The least of a list that is enough, from its end on. -/
def leastL {α : Type} (enough : List α → Bool) : Nat → List α → List α
  | 0, out => out
  | k + 1, out => leastL enough k (if enough (out.eraseIdx k) then out.eraseIdx k else out)
theorem least_enough {α : Type} (enough : List α → Bool) : ∀ (k : Nat) (out : List α), enough out = true → enough (leastL enough k out) = true
  | 0, out, h => h
  | k + 1, out, h => by
    unfold leastL
    apply least_enough
    split
    · assumption
    · exact h
theorem least_mem {α : Type} (enough : List α → Bool) (x : α) : ∀ (k : Nat) (out : List α), x ∈ leastL enough k out → x ∈ out
  | 0, out, h => h
  | k + 1, out, h => by
    unfold leastL at h
    have := least_mem enough x k _ h
    split at this
    · exact List.mem_of_mem_eraseIdx this
    · exact this
theorem least_len {α : Type} (enough : List α → Bool) : ∀ (k : Nat) (out : List α), (leastL enough k out).length ≤ out.length
  | 0, out => Nat.le_refl _
  | k + 1, out => by
    unfold leastL
    refine Nat.le_trans (least_len enough k _) ?_
    split
    · exact List.length_eraseIdx_le ..
    · exact Nat.le_refl _

/-- Why a constraint says so. -/
def whyP (vs : List MVar) (pts : List Nat) (any : Cla) (gone : Nat) : Cla := any ++ litsP vs (spareP (fun g => saysP vs pts (heldP vs any ||| g)) (gone + 1) gone gone)
theorem reason_why (vs : List MVar) (c : MCon) (s : Sto) (any : Cla) : reasonP vs c s any = whyP vs (pointsP vs c) any (goneP vs s) := rfl
/-- A reason: a step, and what its clause holds of. -/
def reasonOf (vs : List MVar) (con : Nat) (c : Cla) : MStep × Nat := (⟨1, (con : Int), c⟩, heldP vs c)
def reasonsT (vs : List MVar) (pt : List (List Nat)) (t : Nat × Nat × Nat) : List (MStep × Nat) :=
  if t.2.2 = 0 then [reasonOf vs t.1 (whyP vs (pt.getD t.1 []) [] (lessN (wholeP vs) t.2.1))]
  else (litsP vs (lessN t.2.1 t.2.2)).map fun l => reasonOf vs t.1 (whyP vs (pt.getD t.1 []) [⟨l.var, 4, l.n⟩] (lessN (wholeP vs) t.2.1))
def reasonsP (vs : List MVar) (cs : List Nat) (pt : List (List Nat)) (h : Nat) : List (MStep × Nat) := (tellsP vs cs pt h).flatMap (reasonsT vs pt)
def enoughP (vs : List MVar) (cs : List Nat) (h : Nat) (some : List (MStep × Nat)) : Bool := failsP vs (cs ++ some.map (·.2)) h
def stepsA (vs : List MVar) (cs : List Nat) (pt : List (List Nat)) (c : Cla) : List MStep :=
  (leastL (enoughP vs cs (heldP vs c)) (reasonsP vs cs pt (heldP vs c)).length (reasonsP vs cs pt (heldP vs c))).map (·.1) ++ [⟨2, 0, c⟩]
def nothingP (vs : List MVar) (cs : List Nat) (pt : List (List Nat)) (c : Cla) : Bool := narrowP vs cs pt (heldP vs c) == 0
def leastC (vs : List MVar) (cs : List Nat) (pt : List (List Nat)) (c : Cla) : Cla := leastL (nothingP vs cs pt) c.length c
/-- All constraints' points. -/
def ptsM (m : Mod) : List (List Nat) := m.cons.map (pointsP m.vars)
theorem ptsM_keeps (m : Mod) (hm : checkM m = 0) (vals : List Int) (hv : MayBe m.vars vals) (hc : ∀ c ∈ m.cons, holdsC c vals = true) : ∀ pts ∈ ptsM m, ∀ p, p < 2 ^ 36 → Within m.vars vals p → Within m.vars vals (leftP pts p) := by
  intro pts hp p h36 hw
  obtain ⟨c, hcm, rfl⟩ := List.mem_map.1 hp
  obtain ⟨j, hj, he⟩ := List.getElem_of_mem hcm
  obtain ⟨k1, k2⟩ := scope_in m hm j c (by rw [List.getElem?_eq_getElem hj, he])
  exact left_keeps m.vars (vars_okP m hm) c k1 k2 vals hv (hc c hcm) p h36 hw
/-- WHAT IS LEARNED HOLDS. -/
theorem learned_holds (m : Mod) (hm : checkM m = 0) (vals : List Int) (hv : MayBe m.vars vals) (hc : ∀ c ∈ m.cons, holdsC c vals = true) (cs : List Nat) (hh : ∀ c ∈ cs, Hits m.vars vals c) (c : Cla) (hz : nothingP m.vars cs (ptsM m) c = true) : Hits m.vars vals (heldP m.vars c) := by
  unfold nothingP at hz
  exact narrow_hits m.vars (vars_okP m hm) (vars_one m hm) vals hv cs hh (ptsM m) (ptsM_keeps m hm vals hv hc) _ (by simpa using hz)
end Go.Proofs.YtijohkhpigjbkaeGreatDoor
/-
  WALK: package fence: Why.
-/
namespace Go.Proofs.YtijohkhpigjbkaeGreatDoor
open Go.RowKit

set_option maxHeartbeats 3200000 in
set_option maxRecDepth 100000 in
theorem why_any (vs : List MVar) (hva : VarsAll vs) (pts : List Nat) (any : Cla) (hla : any.length ≤ 100) (g0 : Nat) (hgw : ∀ i, g0.testBit i = true → (wholeP vs).testBit i = true) (sv pv u : Value) (w : World) (hv : VArg w sv vs) (hp : PArg w pv pts) (hu : LArg w u any) (hT : TabT w) :
    Calls Tryz.prog 81 #[sv, pv, u, .int .u64 g0] w fun e w' => ∃ x, e = .returned x ∧ LOwn w.heap.size w' x (whyP vs pts any g0) ∧ Below w.heap.size w w' := by
  have HV : Hid (∀ w', Below w.heap.size w w' → VArg w' sv vs) := fun w' h => VArg.below h hv
  have HP : Hid (∀ w', Below w.heap.size w w' → PArg w' pv pts) := fun w' h => PArg.below h hp
  have HU : Hid (∀ w', Below w.heap.size w w' → LArg w' u any) := fun w' h => LArg.below h hu
  have HT : Hid (∀ w', Below w.heap.size w w' → TabT w') := fun w' h => hT.below h
  have HVO : Hid (VarsAll vs) := hva
  have HLA : Hid (any.length ≤ 100) := hla
  have HGW : Hid (∀ i, g0.testBit i = true → (wholeP vs).testBit i = true) := hgw
  have HG36 : Hid (g0 < 2 ^ 36) := Nat.lt_of_le_of_lt (Nat.le_of_testBit hgw) (whole_lt vs hva.1)
  obtain ⟨h, hh⟩ : ∃ h, heldP vs any = h := ⟨_, rfl⟩
  have HH : Hid (heldP vs any = h) := hh
  have HH36 : Hid (h < 2 ^ 36) := by rw [← hh]; exact of_lt vs hva.1 _
  obtain ⟨LP, hLP⟩ : ∃ LP, spareP (fun g => saysP vs pts (h ||| g)) (g0 + 1) g0 g0 = LP := ⟨_, rfl⟩
  have HWY : Hid (whyP vs pts any g0 = any ++ litsP vs LP) := by show _ = _; unfold whyP; rw [hh, hLP]
  have HLE : Hid (LP = spareP (fun g => saysP vs pts (h ||| g)) (g0 + 1) g0 g0) := hLP.symm
  obtain ⟨a1, c1, rfl, _, _⟩ := hv
  obtain ⟨a2, c2, rfl, _, _⟩ := hp
  obtain ⟨a3, c3, rfl, _, _⟩ := hu
  clear hva hla hgw hh hLP hT
  go_enter Tryz.func81, Tryz.ntmps81
  go_wp2_with fail
  refine (held_any vs HVO.out any _ _ _ (HV.out _ (Below.refl _ _)) (HU.out _ (Below.refl _ _))).mono ?_
  rintro e w1 ⟨rfl, hb1⟩
  rw [HH.out]
  have HB1 : Hid (Below w.heap.size w w1) := hb1
  clear hb1
  go_wp2_with fail
  go_loopw [3, 10] (fun g r wr => ∃ gg rr : Nat, g = .int .u64 (gg : Int) ∧ r = .int .u64 (rr : Int) ∧ Hid (gg < 2 ^ 36) ∧ Hid (rr < 2 ^ 36) ∧ Hid (LP = spareP (fun g => saysP vs pts (h ||| g)) (rr + 1) gg rr) ∧ Hid (∀ i, gg.testBit i = true → (wholeP vs).testBit i = true) ∧ Hid (Below w.heap.size w wr)) (fun _ r _ => (intOf r).toNat)
  case atStart => exact ⟨g0, g0, rfl, rfl, HG36, HG36, HLE, HGW, HB1⟩
  case round =>
    obtain ⟨gg, rr, rfl, rfl, hg36, hr36, hle, hgw, hbw⟩ := hrel
    by_cases hr0 : rr = 0
    · subst hr0
      have HEQ : Hid (LP = gg) := by show _ = _; rw [hle.out]; rfl
      clear hle
      go_wp2_with fail
      refine (clone_cla any (by have := HLA.out; omega) _ _ (HU.out _ hbw.out)).mono ?_
      rintro e w2 ⟨x, rfl, hx, hb2⟩
      have HB2 : Hid (Below w.heap.size w w2) := hbw.out.trans (hb2.mono hbw.out.size)
      have HX : Hid (LOwn w.heap.size w2 x any) := own_lower hbw.out.size hx
      have HSZ : Hid (w.heap.size ≤ w2.heap.size) := HB2.out.size
      obtain ⟨ax, cx, rfl⟩ := own_form (show w2.ownsRow _ _ _ _ _ _ from hx)
      clear hx hb2
      go_wp2_with fail
      refine (flits_any vs HVO.out gg hgw.out _ _ (HV.out _ HB2.out) (HT.out _ HB2.out)).mono ?_
      rintro e w3 ⟨y, rfl, hy, hb3⟩
      have HX3 : Hid (LOwn w.heap.size w3 (.slice ax (List.length any) cx) any) := own_below HX.out hb3
      have HB3 : Hid (Below w.heap.size w w3) := HB2.out.trans (hb3.mono HB2.out.size)
      have HLL : Hid ((litsP vs gg).length ≤ 36) := lits_len _ _
      obtain ⟨L, hL⟩ : ∃ L, litsP vs gg = L := ⟨_, rfl⟩
      have HRE : Hid (whyP vs pts any g0 = any ++ L) := by show _ = _; rw [HWY.out, HEQ.out, hL]
      rw [hL] at hy HLL
      have HY : Hid (LArg w3 y L) := hy.arg
      have HXL : Hid (∀ g, (Value.slice ax (List.length any) cx).ownBlock = some g → w.heap.size ≤ g) := fun g hg => ((show w3.ownsRow _ _ _ _ _ _ from HX3.out).lt g hg).1
      obtain ⟨ay, cy, rfl⟩ := own_form (show w3.ownsRow _ _ _ _ _ _ from hy)
      clear hy hb3 hL
      go_wp2_with (at_builtin; refine wpList_append_lits 29 under_clone_cla rfl _ _ rfl w.heap.size _ any rfl HX3.out _ L rfl HY.out ?c1 ?c2 ?_)
      case c1 => have := HLL.out; have := HLA.out; omega
      case c2 => exact HB3.out.size
      intro v4 w4 hown4 hgrow
      have HO4 : Hid (LOwn w.heap.size w4 v4 (any ++ L)) := hown4
      have HB4 : Hid (Below w.heap.size w w4) := HB3.out.grown hgrow HB3.out.size (fun g hg => HXL.out g hg)
      obtain ⟨av, cv, rfl⟩ := own_form (show w4.ownsRow _ _ _ _ _ _ from hown4)
      clear hown4 hgrow
      go_wp2
      go_ret
      exact ⟨_, rfl, by rw [HRE.out]; exact HO4.out, HB4.out⟩
    · have HST : Hid (LP = spareP (fun g => saysP vs pts (h ||| g)) ((rr &&& (rr - 1)) + 1) (if saysP vs pts (h ||| lessN gg (2 ^ Lib.ctz 64 rr)) then lessN gg (2 ^ Lib.ctz 64 rr) else gg) (rr &&& (rr - 1))) := by
        show _ = _
        rw [hle.out]; exact spare_step _ gg rr hr0 (by have := hr36.out; omega)
      obtain ⟨hlow, hk⟩ := Lib.lowest_bit 64 rr hr0 (by have := hr36.out; omega)
      have hless := low_less rr hr0 (by have := hr36.out; omega)
      obtain ⟨hk36⟩ : Nonempty (Lib.ctz 64 rr < 36) := ⟨(bitsL_step rr hr0 hr36.out).2⟩
      have hpow : 2 ^ Lib.ctz 64 rr < 2 ^ 36 := Nat.pow_lt_pow_right (by omega) hk36
      obtain ⟨tt, htt⟩ : ∃ tt, 2 ^ Lib.ctz 64 rr = tt := ⟨_, rfl⟩
      rw [htt] at hlow hpow HST
      have hneg : IntKind.u64.wrap (-(rr : Int)) = ((18446744073709551616 - rr : Nat) : Int) := by rw [IntKind.wrap_u64]; have := hr36.out; omega
      have hand := bits_and_u64_nat rr (18446744073709551616 - rr) (by have := hr36.out; omega) (by omega)
      have hlow' : rr &&& (18446744073709551616 - rr) = tt := hlow
      rw [hlow'] at hand
      obtain ⟨N0, hN0⟩ : ∃ N0, 18446744073709551616 - rr = N0 := ⟨_, rfl⟩
      rw [hN0] at hneg hand
      have hnot := bits_andNot_u64 gg tt (by have := hg36.out; omega) (by omega)
      obtain ⟨sp, hsp⟩ : ∃ sp, lessN gg tt = sp := ⟨_, rfl⟩
      have HSP36 : Hid (sp < 2 ^ 36) := by rw [← hsp]; exact less_lt 36 _ _ hg36.out
      have HSW : Hid (∀ i, sp.testBit i = true → (wholeP vs).testBit i = true) := fun i hi => by
        rw [← hsp, testBit_less, Bool.and_eq_true] at hi
        exact hgw.out i hi.1
      rw [hsp] at hnot HST
      obtain ⟨r2, hr2⟩ : ∃ r2, rr &&& (rr - 1) = r2 := ⟨_, rfl⟩
      have hsub : IntKind.u64.wrap ((rr : Int) - 1) = ((rr - 1 : Nat) : Int) := by rw [IntKind.wrap_u64]; have := hr36.out; omega
      have hand2 := bits_and_u64_nat rr (rr - 1) (by have := hr36.out; omega) (by have := hr36.out; omega)
      obtain ⟨r1, hr1⟩ : ∃ r1, rr - 1 = r1 := ⟨_, rfl⟩
      rw [hr2] at hand2 hless HST
      rw [hr1] at hsub hand2
      have HR236 : Hid (r2 < 2 ^ 36) := by have := hr36.out; show _ < _; omega
      have HLS : Hid (r2 < rr) := hless
      have hne : ((rr : Int) != 0) = true := by simpa using hr0
      have hor := bits_or_u64_nat h sp (by have := HH36.out; omega) (by have := HSP36.out; omega)
      obtain ⟨hs, hhs⟩ : ∃ hs, h ||| sp = hs := ⟨_, rfl⟩
      have HHS36 : Hid (hs < 2 ^ 36) := by rw [← hhs]; exact or_lt36 HH36.out HSP36.out
      rw [hhs] at hor HST
      obtain ⟨B, hB⟩ : ∃ B, saysP vs pts hs = B := ⟨_, rfl⟩
      have HSY : Hid (Calls Tryz.prog 86 #[.slice a1 (List.length vs) c1, .slice a2 (List.length pts) c2, .int .u64 (hs : Int)] wr fun e w' => e = .returned (.bool B) ∧ Below wr.heap.size wr w') := by
        rw [← hB]
        exact says_any vs HVO.out pts hs HHS36.out _ _ wr (HV.out _ hbw.out) (HP.out _ hbw.out)
      rw [hB] at HST
      have HGWK : Hid (∀ i, gg.testBit i = true → (wholeP vs).testBit i = true) := hgw.out
      clear hle hr0 hlow hk hk36 hpow htt hlow' hN0 hsp hr2 hr1 hless hB hgw hhs
      cases B
      · have HS2 : Hid (LP = spareP (fun g => saysP vs pts (h ||| g)) (r2 + 1) gg r2) := by show _ = _; rw [HST.out]; rfl
        clear HST
        go_wp2_with fail
        refine HSY.out.mono ?_
        rintro e w7 ⟨rfl, hb7⟩
        have HB7 : Hid (Below w.heap.size w w7) := hbw.out.trans (hb7.mono hbw.out.size)
        clear hb7
        go_wp2
        go_roundw
        case rel => exact ⟨gg, r2, rfl, rfl, hg36, HR236, HS2, HGWK, HB7⟩
        case measure => simp [intOf]; exact HLS.out
      · have HS2 : Hid (LP = spareP (fun g => saysP vs pts (h ||| g)) (r2 + 1) sp r2) := by show _ = _; rw [HST.out]; rfl
        clear HST
        go_wp2_with fail
        refine HSY.out.mono ?_
        rintro e w7 ⟨rfl, hb7⟩
        have HB7 : Hid (Below w.heap.size w w7) := hbw.out.trans (hb7.mono hbw.out.size)
        clear hb7
        go_wp2
        go_roundw
        case rel => exact ⟨sp, r2, rfl, rfl, HSP36, HR236, HS2, HSW, HB7⟩
        case measure => simp [intOf]; exact HLS.out
end Go.Proofs.YtijohkhpigjbkaeGreatDoor
/-
  WALK: package sift: Those, with whatever closure.
-/
namespace Go.Proofs.YtijohkhpigjbkaeGreatDoor
open Go.RowKit

theorem Tryz.infoInts : (Tryz.prog.info? 39).map (fun i => (i.zero, i.size, i.bytes)) = some (some (.slice none 0 0), 1, 24) := by kernel_rfl
theorem Tryz.infoInt : (Tryz.prog.info? 3).map (fun i => (i.zero, i.size, i.bytes)) = some (some (.int .i64 0), 1, 8) := by kernel_rfl
theorem Tryz.underStore : Tryz.prog.underlying 27 = some (.slice 39) := by kernel_rfl

/-- A store is made: all of its rows are nil. -/
theorem make_store (n : Nat) (hn : n ≤ 6) (w : World) : ∃ w', Sem.run Tryz.prog (Instr.makeSlice 27 (.int .i64 (n : Int)) (.int .i64 (n : Int))) w = .ok (.slice (some ⟨w.heap.size, 0, none⟩) n n) w' ∧
    (∀ M, SRows w' w.heap.size w.heap.size n (List.replicate n (.slice none 0 0)) M 0) ∧ Below w.heap.size w w' := by
  obtain ⟨i0, hi, hz0, hz1, hz2⟩ := info_parts Tryz.infoInts
  obtain ⟨w', hrun, hown, hg⟩ := run_makeSlice_full w w.heap.size 27 39 i0 (.slice none 0 0) 1 Tryz.underStore hi hz0 hz1 .i64 .i64 n (by omega) (by rw [hz2]; omega) (by unfold maxLen; omega) (Nat.le_refl _)
  refine ⟨w', hrun, fun M => ⟨?_, fun i r hi => absurd hi (Nat.not_lt_zero _), fun i _ hn => by simp [hn]⟩, (Below.refl _ _).grown hg (Nat.le_refl _) (fun k h => by cases h)⟩
  have : (Value.slice none 0 0).cells = #[.slice none 0 0] := rfl
  rw [this, Nat.mul_one, toList_madeCells_one] at hown
  exact hown

theorem one_laid (w : World) (z : Int) : ∀ (j : Nat) (u : Value), [Value.int .i64 z][j]? = some u → (w.alloc (.cells #[.int .i64 z] 3)).cell? ((⟨w.heap.size, 0, none⟩ : Addr).add j) = some u := by
  intro j u hj
  match j, hj with
  | 0, hj => simp at hj; subst hj; simp [Addr.add]

/-- A closure over a variable and a value that only reads what is old. -/
def ClosS (F : Nat) (caps : Array Value) (s : Sto) (p : Nat → Int → Bool) (w : World) : Prop :=
  (∀ (args : Array Value) (w' : World), Sem.run Tryz.prog (callFunc F args) w' = .ok (.enter F args) w') ∧
  ∀ (k : Nat) (r : List Int) (z : Int) (w' : World), s[k]? = some r → z ∈ r → Below w.heap.size w w' → Calls Tryz.prog F (#[.int .i64 k, .int .i64 z] ++ caps) w' fun e w'' => e = .returned (.bool (p k z)) ∧ Below w'.heap.size w' w''
theorem filt_hit (q : Int → Bool) (r : List Int) (j : Nat) (z : Int) (hz : r[j]? = some z) (h : q z = true) : (r.take (j + 1)).filter q = (r.take j).filter q ++ [z] := by
  rw [List.take_add_one, hz, List.filter_append]; simp [h]
theorem filt_miss (q : Int → Bool) (r : List Int) (j : Nat) (z : Int) (hz : r[j]? = some z) (h : q z = false) : (r.take (j + 1)).filter q = (r.take j).filter q := by
  rw [List.take_add_one, hz, List.filter_append]; simp [h]
theorem filt_short (q : Int → Bool) (r : List Int) (j : Nat) : ((r.take j).filter q).length ≤ r.length :=
  Nat.le_trans (List.length_filter_le _ _) (by rw [List.length_take]; omega)

set_option maxHeartbeats 1600000 in
set_option maxRecDepth 100000 in
theorem sift_any (F : Nat) (caps : Array Value) (s : Sto) (p : Nat → Int → Bool) (v : Value) (w : World) (hv : RArg w v s) (hF : ClosS F caps s p w) (hn : s.length ≤ 6) (hr6 : ∀ r ∈ s, r.length ≤ 6) :
    Calls Tryz.prog 58 #[v, .func (.func F) #[] caps] w fun e w' => ∃ x, e = .returned x ∧ RArg w' x (siftS s p) ∧ Below w.heap.size w w' := by
  obtain ⟨a3, c3, rfl, hl3, hr3⟩ := hv
  have HV3 : Hid (∀ (i : Nat) (r : List Int), s[i]? = some r → ∃ b off x, a3 = some ⟨b, off, none⟩ ∧ b < w.heap.size ∧ w.cell? ⟨b, off + i, none⟩ = some x ∧ IArg w x r) := hr3
  have HF : Hid (ClosS F caps s p w) := hF
  have HR6 : Hid (∀ r ∈ s, r.length ≤ 6) := hr6
  unfold maxLen at hl3
  obtain ⟨hl31, hl3⟩ := hl3
  obtain ⟨wm, hrun, hrows, hbm⟩ := make_store s.length hn w
  have HROWS : Hid (∀ M, SRows wm w.heap.size w.heap.size s.length (List.replicate s.length (.slice none 0 0)) M 0) := hrows
  have HBM : Hid (Below w.heap.size w wm) := hbm
  obtain ⟨B, hB⟩ : ∃ B, B = w.heap.size := ⟨_, rfl⟩
  rw [← hB] at hrun HROWS
  have hBw : w.heap.size ≤ B := by omega
  obtain ⟨i0, hi, hz0, hz1, hz2⟩ := info_parts Tryz.infoInt
  clear hr3 hF hr6 hrows hbm hB
  go_enter Tryz.func58, Tryz.ntmps58
  go_wp2_with fail
  clear hrun
  go_loopw [15] (fun i wr => ∃ (k : Nat) (cells : List Value), k ≤ s.length ∧ i = .int .i64 k ∧ SRows wr B B s.length cells (siftS s p) k ∧ Below w.heap.size w wr) (fun i _ => s.length - (intOf i).toNat)
  case atStart => exact ⟨0, _, by omega, rfl, HROWS.out _, HBM.out⟩
  case round =>
    obtain ⟨k, cells, hk, rfl, hrow, hbw⟩ := hrel
    have HROW : Hid (SRows wr B B s.length cells (siftS s p) k) := hrow
    have HBW : Hid (Below w.heap.size w wr) := hbw
    clear hrow hbw
    by_cases hlt : k < s.length
    · obtain ⟨r, hr⟩ : ∃ r, s[k]? = some r := ⟨s[k], by simp [hlt]⟩
      have HM : Hid ((siftS s p)[k]? = some (r.filter (p k))) := siftS_get s p k r hr
      have hr6 : r.length ≤ 6 := HR6.out r (List.mem_of_getElem? hr)
      have HR : Hid (s[k]? = some r) := hr
      obtain ⟨b, off, x, hax, hb, hc0, hix⟩ := HV3.out k r hr
      subst hax
      have hc := (HBW.out.cell (p := ⟨b, off + k, none⟩) hb).trans hc0
      obtain ⟨a5, c5, rfl, hm5, hr5⟩ := hix
      have HR5 : Hid (∀ (i : Nat) (z : Int), r[i]? = some z → ∃ b off, a5 = some ⟨b, off, none⟩ ∧ b < w.heap.size ∧ w.cell? ⟨b, off + i, none⟩ = some (.int .i64 z)) := hr5
      unfold maxLen at hm5
      obtain ⟨hm51, hm5⟩ := hm5
      obtain ⟨K, HIN⟩ : ∃ K, Hid (SRowsIn wr B B s.length cells (siftS s p) k K []) := ⟨_, HROW.out.into hlt⟩
      clear hr hc0 hr5 hb
      obtain ⟨wo, rfl⟩ : ∃ wo : World, wo = wr := ⟨_, rfl⟩
      go_wp2_with fail
      clear hc
      go_loopw [22] (fun i wr => ∃ (j : Nat) (cells : List Value), j ≤ r.length ∧ i = .int .i64 j ∧ SRowsIn wr B B s.length cells (siftS s p) k K ((r.take j).filter (p k)) ∧ Below w.heap.size w wr) (fun i _ => r.length - (intOf i).toNat)
      case atStart => exact ⟨0, cells, by omega, rfl, HIN.out, HBW.out⟩
      case round =>
        obtain ⟨j, cells, hj, rfl, hin, hbw⟩ := hrel
        have HIN2 : Hid (SRowsIn wr B B s.length cells (siftS s p) k K ((r.take j).filter (p k))) := hin
        have HBW2 : Hid (Below w.heap.size w wr) := hbw
        clear hin hbw
        by_cases hlj : j < r.length
        · obtain ⟨z, hz⟩ : ∃ z, r[j]? = some z := ⟨r[j], by simp [hlj]⟩
          obtain ⟨b5, off5, ha5, hb5, hc5⟩ := HR5.out j z hz
          have HZ : Hid (r[j]? = some z) := hz
          subst ha5
          have hc := (HBW2.out.cell (p := ⟨b5, off5 + j, none⟩) hb5).trans hc5
          clear hz hc5 hb5
          cases hq : p k z
          · have HN : Hid ((r.take (j + 1)).filter (p k) = (r.take j).filter (p k)) := filt_miss (p k) r j z HZ.out hq
            go_wp2_with fail
            rw [HF.out.1, Oper.upon_enter]
            refine (HF.out.2 k r z _ HR.out (List.mem_of_getElem? HZ.out) HBW2.out).mono ?_
            rintro e w1 ⟨rfl, hb1⟩
            rw [hq]
            have HIN3 := HIN2.out.kept hb1
            have HB3 : Hid (Below w.heap.size w w1) := HBW2.out.trans (hb1.mono HBW2.out.size)
            clear hq hb1
            go_wp2
            go_roundw
            case rel => exact ⟨j + 1, cells, by omega, by go_num, by rw [HN.out]; exact HIN3, HB3.out⟩
            case measure => simp [intOf]; omega
          · have HN : Hid ((r.take (j + 1)).filter (p k) = (r.take j).filter (p k) ++ [z]) := filt_hit (p k) r j z HZ.out hq
            obtain ⟨acc, hacc⟩ : ∃ acc, (r.take j).filter (p k) = acc := ⟨_, rfl⟩
            have hal : acc.length ≤ 6 := by rw [← hacc]; exact Nat.le_trans (filt_short (p k) r j) hr6
            rw [hacc] at HN HIN2
            clear hacc
            go_wp2_with fail
            rw [HF.out.1, Oper.upon_enter]
            refine (HF.out.2 k r z _ HR.out (List.mem_of_getElem? HZ.out) HBW2.out).mono ?_
            rintro e w1 ⟨rfl, hb1⟩
            rw [hq]
            have HIN3 : Hid (SRowsIn w1 B B s.length cells (siftS s p) k K acc) := HIN2.out.kept hb1
            have HB3 : Hid (Below w.heap.size w w1) := HBW2.out.trans (hb1.mono HBW2.out.size)
            clear hq hb1 hc HIN2 HBW2
            obtain ⟨htop, _, ⟨x, hx, hox⟩, _, hBK, hKw, _⟩ := HIN3.out
            obtain ⟨ax, cx, rfl⟩ := own_form hox
            have HX : Hid (cells[k]? = some (.slice ax acc.length cx)) := hx
            have hcx : w1.cell? ⟨B, k, none⟩ = some (.slice ax acc.length cx) := by rw [htop.cellAt k (by omega)]; exact hx
            have hlB : B < w1.heap.size := by omega
            clear hx
            go_wp2_with (at_builtin; refine wpList_append_own _ rfl _ _ 39 rfl K 3 i0 (.int .i64 0) 1 8 Tryz.underlying39 hi hz0 hz1 hz2 rfl (by decide) _ _ _ rfl (hox.alloc _) ⟨w1.heap.size, 0, none⟩ 1 1 [.int .i64 z] rfl rfl ?c1 ?c2 ?c3 ?c4 ?c5 ?_)
            case c1 => exact one_laid w1 z
            case c2 => intro u hu; rcases List.mem_singleton.1 hu with rfl; rfl
            case c3 => unfold maxLen; omega
            case c4 => omega
            case c5 => simp; omega
            intro v3 w3 hown3 hgrow _
            have hown4 : w3.ownsRow K 3 1 v3 (acc ++ [z]).length ((acc ++ [z]).map (Value.int .i64)) := by
              rw [List.length_append, List.map_append]; exact hown3
            have HPUSH : Hid (SRowsIn (w3.setCell ⟨B, k, none⟩ v3) B B s.length (cells.set k v3) (siftS s p) k K (acc ++ [z])) := (HIN3.out.kept (below_alloc _ _)).push HX.out hown4 hgrow
            have HB4 : Hid (Below w.heap.size w (w3.setCell ⟨B, k, none⟩ v3)) :=
              ((HB3.out.alloc HB3.out.size _).grown hgrow (by have := HB3.out.size; simp; omega) (fun g h => by have := (hox.lt g h).1; omega)).setCell (by simp only; omega) _
            have ht3 : w3.ownsRow B 39 1 (.slice (some ⟨B, 0, none⟩) s.length s.length) s.length cells := (htop.alloc _).kept hgrow (Or.inr (fun h => by have := (hox.lt B h.symm).1; omega))
            have hcB : w3.cell? ⟨B, k, none⟩ = some (.slice ax acc.length cx) := by rw [ht3.cellAt k (by omega)]; exact HX.out
            have hfB : w3.frozen? ⟨B, k, none⟩ = false := ht3.frozenAt k
            obtain ⟨av, cv, rfl⟩ := own_form hown4
            rw [show (acc ++ [z]).length = acc.length + 1 by simp] at HPUSH HB4
            clear hown3 hgrow hown4 hox hcx htop ht3
            go_wp2
            go_roundw
            case rel => exact ⟨j + 1, _, by omega, by go_num, by rw [HN.out]; exact HPUSH.out, HB4.out⟩
            case measure => simp [intOf]; omega
        · have HN : Hid ((r.take j).filter (p k) = r.filter (p k)) := by show _ = _; rw [List.take_of_length_le (by omega)]
          have HD : Hid (SRows wr B B s.length cells (siftS s p) (k + 1)) := HIN2.out.done (by rw [HN.out]; exact HM.out)
          go_wp2
          go_roundw
          case rel => exact ⟨k + 1, cells, by omega, by go_num, HD.out, HBW2.out⟩
          case measure => simp [intOf]; omega
    · have hks : k = s.length := by omega
      have HFN : Hid (RArg wr (.slice (some ⟨B, 0, none⟩) s.length s.length) (siftS s p)) := by
        have h := HROW.out
        rw [hks] at h
        exact h.rarg (siftS_len s p)
      clear hks
      go_wp2
      go_ret
      exact ⟨_, rfl, HFN.out, HBW.out⟩
end Go.Proofs.YtijohkhpigjbkaeGreatDoor
/-
  WALK: package fence: the closure that goes through a constraint's values.
-/
namespace Go.Proofs.YtijohkhpigjbkaeGreatDoor
open Go.RowKit

theorem Tryz.infoPart : (Tryz.prog.info? 118).map (fun i => (i.zero, i.size, i.bytes)) = some (some (.int .u64 0), 1, 8) := by kernel_rfl
theorem Tryz.underParts : Tryz.prog.underlying 122 = some (.slice 118) := by kernel_rfl
theorem part_laid (w : World) (z : Nat) : ∀ (j : Nat) (u : Value), [Value.int .u64 (z : Int)][j]? = some u → (w.alloc (.cells #[.int .u64 (z : Int)] 118)).cell? ((⟨w.heap.size, 0, none⟩ : Addr).add j) = some u := by
  intro j u hj
  match j, hj with
  | 0, hj => simp at hj; subst hj; simp [Addr.add]

set_option maxHeartbeats 3200000 in
set_option maxRecDepth 100000 in
theorem pts_end (N bs bm bc : Nat) (m : Mod) (con : Nat) (c : MCon) (vs cs sv : Value) (scope vals : List Int) (a : Nat) (out : List Nat) (w : World)
    (hc : m.cons[con]? = some c) (hce : conE vals.length c = 0) (hvb : ∀ x ∈ vals, -50 ≤ x ∧ x ≤ 50) (hbud : out.length ≤ 10000000)
    (hT : PtsS N bs bm bc m con vs cs sv scope vals out w) :
    Calls Tryz.prog 142 #[.int .i64 (scope.length : Int), .int .u64 (a : Int), .pointer (some ⟨bs, 0, none⟩), .pointer (some ⟨bm, 0, none⟩), .pointer (some ⟨bc, 0, none⟩), .pointer (some ⟨N + 1, 0, none⟩), .pointer (some ⟨N + 2, 0, none⟩), .pointer (some ⟨N + 3, 0, none⟩)] w fun e w' => e = .returned (.tuple #[]) ∧
      PtsS N bs bm bc m con vs cs sv scope vals (out ++ if holdsC c vals then [a] else []) w' ∧ Below N w w' := by
  obtain ⟨hma, hia, d0, d1, d2, d3, l0, l1, l2⟩ := hT.old
  obtain ⟨⟨av, cv, rfl, _, _⟩, ⟨ac, cc, hcs, hmc, hrc⟩⟩ := hma
  subst hcs
  obtain ⟨asv, csv, hsv, hms, _⟩ := hia
  subst hsv
  obtain ⟨bb, off, vv, vc, vr, vl, hax, hbb, c0, c1, c2, c3, c4, c5, hK⟩ := hrc con c hc
  subst hax
  have HK : Hid (∀ w' : World, Below w.heap.size w w' → KArg w' vv vc vr vl c) := fun w' h => KArg.below h hK
  have HVA : Hid (∀ w' : World, Below w.heap.size w w' → IArg w' (.slice (some ⟨N, 0, none⟩) vals.length vals.length) vals) := fun w' h => IArg.below h hT.vals_arg
  obtain ⟨⟨q1, r1, h1, _, _⟩, ⟨q2, r2, h2, _, _⟩, ⟨q3, r3, h3, _, _⟩, ⟨q4, r4, h4, _, _⟩⟩ := hK
  subst h1; subst h2; subst h3; subst h4
  have hcon : con < m.cons.length := (List.getElem?_eq_some_iff.1 hc).1
  have d4 := hT.2.2.2.1
  have l4 : N + 1 < w.heap.size := by have := hT.1; omega
  have HNL : Hid (N ≤ w.heap.size) := by have := hT.1; exact (by omega : N ≤ w.heap.size)
  have HT : Hid (PtsS N bs bm bc m con (.slice av m.vars.length cv) (.slice (some ⟨bb, off, none⟩) m.cons.length cc) (.slice asv scope.length csv) scope vals out w) := hT
  have HVB : Hid (∀ x ∈ vals, -50 ≤ x ∧ x ≤ 50) := hvb
  have HCE : Hid (conE vals.length c = 0) := hce
  unfold maxLen at hmc hms
  obtain ⟨hmc1, hmc⟩ := hmc
  obtain ⟨hms1, hms⟩ := hms
  obtain ⟨i0, hi, hz0, hz1, hz2⟩ := info_parts Tryz.infoPart
  obtain ⟨O, hO⟩ : ∃ O, (out ++ if holdsC c vals then [a] else []) = O := ⟨_, rfl⟩
  have HO : Hid ((out ++ if holdsC c vals then [a] else []) = O) := hO
  rw [hO]
  clear hT hvb hce hrc hc hO
  go_enter Tryz.func142, Tryz.ntmps142
  go_wp2_with fail
  go_region_held3 (fun w' => Below w.heap.size w w' ∧ w'.cell? ⟨bm, 1, none⟩ = some (.slice (some ⟨bb, off, none⟩) m.cons.length cc) ∧ w'.cell? ⟨bc, 0, none⟩ = some (.int .i64 con) ∧ w'.cell? ⟨bb, off + con * 6, none⟩ = some (.int .i64 c.kind) ∧ w'.cell? ⟨bb, off + con * 6 + 1, none⟩ = some (.slice q1 c.vars.length r1) ∧ w'.cell? ⟨bb, off + con * 6 + 2, none⟩ = some (.slice q2 c.consts.length r2) ∧ w'.cell? ⟨bb, off + con * 6 + 3, none⟩ = some (.int .i64 c.n) ∧ w'.cell? ⟨bb, off + con * 6 + 4, none⟩ = some (.slice q3 c.rows.length r3) ∧ w'.cell? ⟨bb, off + con * 6 + 5, none⟩ = some (.slice q4 c.lits.length r4) ∧ w'.cell? ⟨N + 1, 0, none⟩ = some (.slice (some ⟨N, 0, none⟩) vals.length vals.length))
      ((refine (fun (hB : Below w.heap.size w _) => ⟨hB, (hB.cell (p := ⟨bm, 1, none⟩) l1).trans d2, (hB.cell (p := ⟨bc, 0, none⟩) l2).trans d3, (hB.cell (p := ⟨bb, off + con * 6, none⟩) hbb).trans c0, (hB.cell (p := ⟨bb, off + con * 6 + 1, none⟩) hbb).trans c1, (hB.cell (p := ⟨bb, off + con * 6 + 2, none⟩) hbb).trans c2, (hB.cell (p := ⟨bb, off + con * 6 + 3, none⟩) hbb).trans c3, (hB.cell (p := ⟨bb, off + con * 6 + 4, none⟩) hbb).trans c4, (hB.cell (p := ⟨bb, off + con * 6 + 5, none⟩) hbb).trans c5, (hB.cell (p := ⟨N + 1, 0, none⟩) l4).trans d4⟩ : Below w.heap.size w _ → _) ?_; first | exact (Below.refl _ _).drew | exact hbq))
      (first
        | (go_at_call 57; refine (holds_any c vals _ _ _ _ _ _ (HK.out _ (Below.refl _ _).drew) (HVA.out _ (Below.refl _ _).drew) HCE.out HVB.out).mono ?_; rintro e w1 ⟨rfl, hbr⟩; have hbq : Below w.heap.size w w1 := ⟨hbr.os, hbr.tape, hbr.output, hbr.size, hbr.block⟩))
  have HT1 : Hid (PtsS N bs bm bc m con (.slice av m.vars.length cv) (.slice (some ⟨bb, off, none⟩) m.cons.length cc) (.slice asv scope.length csv) scope vals out w1) := HT.out.below hbq
  have hbN : Below N w w1 := hbq.mono HNL.out
  clear hbr hbq c0 c1 c2 c3 c4 c5 d0 d1 d2 d3 d4 l0 l1 l2 l4 hbb
  cases hq : holdsC c vals
  · have HE : Hid (out = O) := by show _ = _; have := HO.out; rw [hq] at this; simpa using this
    clear hq
    go_wp2
    (try simp only [Exit.inBlock, Exit.then])
    refine bodyPost_ret (results_none rfl _ _ _) rfl ?_
    refine ⟨rfl, ?_, hbN⟩
    rw [← HE.out]
    exact HT1.out
  · have HE : Hid (out ++ [a] = O) := by show _ = _; have := HO.out; rw [hq] at this; simpa using this
    clear hq
    obtain ⟨hsz, _, _, _, _, ov, ho, hr⟩ := HT1.out
    obtain ⟨ax, cx, rfl⟩ := own_form hr
    have hco : w1.cell? ⟨N + 2, 0, none⟩ = some (.slice ax out.length cx) := ho.cellAt 0 (by omega)
    have hlo : N + 2 < w1.heap.size := by omega
    go_wp2_with (at_builtin; refine wpList_append_own _ rfl _ _ 122 rfl (N + 4) 118 i0 (.int .u64 0) 1 8 Tryz.underlying122 hi hz0 hz1 hz2 rfl (by decide) _ _ _ rfl (hr.alloc _) ⟨w1.heap.size, 0, none⟩ 1 1 [.int .u64 (a : Int)] rfl rfl ?c1 ?c2 ?c3 ?c4 ?c5 ?_)
    case c1 => exact part_laid w1 a
    case c2 => intro u hu; rcases List.mem_singleton.1 hu with rfl; rfl
    case c3 => unfold maxLen; omega
    case c4 => omega
    case c5 => simp; omega
    intro v3 w3 hown3 hgrow _
    have hown4 : w3.ownsRow (N + 4) 118 1 v3 (out ++ [a]).length (u64s (out ++ [a])) := by
      unfold u64s
      rw [List.length_append, List.map_append]; exact hown3
    have HPUT := (HT1.out.below (below_alloc _ _)).put (ho.alloc _) (hr.alloc _) hown4 hgrow
    have HP : Hid (PtsS N bs bm bc m con (.slice av m.vars.length cv) (.slice (some ⟨bb, off, none⟩) m.cons.length cc) (.slice asv scope.length csv) scope vals (out ++ [a]) (w3.setCell ⟨N + 2, 0, none⟩ v3)) := HPUT.1
    have HB4 : Hid (Below N w (w3.setCell ⟨N + 2, 0, none⟩ v3)) := hbN.trans (((Below.refl _ _).alloc (by omega) _).trans HPUT.2)
    have ht3 : w3.ownsRow N 122 1 (.slice (some ⟨N + 2, 0, none⟩) 1 1) 1 [.slice ax out.length cx] := (ho.alloc _).kept hgrow (Or.inr (fun h => by have := (hr.lt (N + 2) h.symm).1; omega))
    have hcB : w3.cell? ⟨N + 2, 0, none⟩ = some (.slice ax out.length cx) := ht3.cellAt 0 (by omega)
    have hfB : w3.frozen? ⟨N + 2, 0, none⟩ = false := ht3.frozenAt 0
    obtain ⟨av', cv', rfl⟩ := own_form hown4
    rw [show (out ++ [a]).length = out.length + 1 by simp] at HP HB4
    clear hown3 hgrow hown4 hr ho hco ht3 HPUT
    go_wp2
    (try simp only [Exit.inBlock, Exit.then])
    refine bodyPost_ret (results_none rfl _ _ _) rfl ?_
    exact ⟨rfl, by rw [← HE.out]; exact HP.out, HB4.out⟩
end Go.Proofs.YtijohkhpigjbkaeGreatDoor
/-
  WALK: package fence: the closure that goes through a constraint's values, to its end.
-/
namespace Go.Proofs.YtijohkhpigjbkaeGreatDoor
open Go.RowKit

theorem var_cells {w : World} {b off c n : Nat} {l : List MVar} (h : VArg w (.slice (some ⟨b, off, none⟩) n c) l) (j : Nat) (hj : j < l.length) :
    b < w.heap.size ∧ w.cell? ⟨b, off + j * 3 + 1, none⟩ = some (.int .i64 (varAt l j).lo) ∧ w.cell? ⟨b, off + j * 3 + 2, none⟩ = some (.int .i64 (varAt l j).hi) := by
  obtain ⟨a, c', hv, _, hr⟩ := h
  obtain ⟨_, b', off', ha, hb, _, c1, c2⟩ := hr j _ (var_at hj)
  injection hv with e1 _ _
  rw [ha] at e1
  cases e1
  exact ⟨hb, c1, c2⟩

set_option maxHeartbeats 3200000 in
set_option maxRecDepth 100000 in
theorem pts_any (N bs bm bc : Nat) (m : Mod) (con : Nat) (c : MCon) (vs cs sv : Value) (scope : List Int) (hm : checkM m = 0) (hc : m.cons[con]? = some c) (hsc : ∀ v ∈ scope, 0 ≤ v ∧ v < (m.vars.length : Int)) (hs8 : scope.length ≤ 8) :
    ∀ (rest : List Int) (k : Nat) (vals : List Int) (a : Nat) (out : List Nat) (w : World), scope.drop k = rest → k ≤ scope.length → vals.length = m.vars.length → (∀ x ∈ vals, -50 ≤ x ∧ x ≤ 50) → a < 2 ^ 36 → out.length + 6 ^ rest.length ≤ 10000000 →
      PtsS N bs bm bc m con vs cs sv scope vals out w →
      Calls Tryz.prog 142 #[.int .i64 k, .int .u64 a, .pointer (some ⟨bs, 0, none⟩), .pointer (some ⟨bm, 0, none⟩), .pointer (some ⟨bc, 0, none⟩), .pointer (some ⟨N + 1, 0, none⟩), .pointer (some ⟨N + 2, 0, none⟩), .pointer (some ⟨N + 3, 0, none⟩)] w fun e w' => e = .returned (.tuple #[]) ∧
        ∃ vals', PtsS N bs bm bc m con vs cs sv scope vals' (out ++ pointsN m.vars c rest vals a) w' ∧ vals'.length = m.vars.length ∧ (∀ x ∈ vals', -50 ≤ x ∧ x ≤ 50) ∧ Agree rest vals vals' ∧ Below N w w' := by
  have HSC : Hid (∀ v ∈ scope, 0 ≤ v ∧ v < (m.vars.length : Int)) := hsc
  have HVA : Hid (VarsAll m.vars) := vars_all m hm
  have HCE : Hid (conE m.vars.length c = 0) := con_ok m hm con c hc
  have HC : Hid (m.cons[con]? = some c) := hc
  clear hsc hm hc
  intro rest
  induction rest with
  | nil =>
    intro k vals a out w hdr hk hvl hvb ha hbud hT
    have hks : k = scope.length := by
      have := congrArg List.length hdr
      simp at this
      omega
    subst hks
    refine (pts_end N bs bm bc m con c vs cs sv scope vals a out w HC.out (by rw [hvl]; exact HCE.out) hvb (by simp at hbud; omega) hT).mono ?_
    rintro e w' ⟨rfl, h1, h2⟩
    exact ⟨rfl, vals, h1, hvl, hvb, Agree.refl _ _, h2⟩
  | cons v rest ih =>
    intro k vals a out w hdr hk hvl hvb ha hbud hT
    have hkl : k < scope.length := by
      have := congrArg List.length hdr
      simp at this
      omega
    have hkv : scope[k]? = some v := by
      have h := congrArg (fun q : List Int => q[0]?) hdr
      simpa using h
    have hdr2 : scope.drop (k + 1) = rest := by
      have h := congrArg List.tail hdr
      simpa using h
    obtain ⟨hv0, hv1⟩ := HSC.out v (List.mem_of_getElem? hkv)
    obtain ⟨j, rfl⟩ : ∃ j : Nat, v = (j : Int) := ⟨v.toNat, by omega⟩
    have hjs : j < m.vars.length := by omega
    obtain ⟨hma, hia, d0, d1, _, _, _, _, _⟩ := hT.old
    obtain ⟨⟨av, cv, hvs, hmv, hrv⟩, _⟩ := hma
    obtain ⟨_, b, off, hav, hbv, _, f1, f2⟩ := hrv j _ (var_at hjs)
    subst hav
    subst hvs
    obtain ⟨asv, csv, hsv, hms, hscell⟩ := hia
    obtain ⟨b2, o2, has, hb2, e0⟩ := hscell k _ hkv
    subst has
    subst hsv
    unfold maxLen at hms hmv
    obtain ⟨hms1, hms⟩ := hms
    obtain ⟨hmv1, hmv⟩ := hmv
    obtain ⟨lo, hlo⟩ : ∃ lo, (varAt m.vars j).lo = lo := ⟨_, rfl⟩
    obtain ⟨hi, hhi⟩ : ∃ hi, (varAt m.vars j).hi = hi := ⟨_, rfl⟩
    obtain ⟨n, hn⟩ : ∃ n, sizeV (varAt m.vars j) = n := ⟨_, rfl⟩
    have HLO : Hid ((varAt m.vars j).lo = lo) := hlo
    have HHI : Hid ((varAt m.vars j).hi = hi) := hhi
    have hbn := HVA.out.2 j hjs
    have hn6 : n ≤ 6 := by rw [← hn]; exact HVA.out.1.2 j
    have hnn : (n : Int) = hi + 1 - lo := by rw [← hn, ← hlo, ← hhi]; unfold sizeV; omega
    rw [hlo] at f1 hbn
    rw [hhi] at f2 hbn
    have H6 : Hid (m.vars.length ≤ 6) := HVA.out.1.1
    have HT : Hid (PtsS N bs bm bc m con (.slice (some ⟨b, off, none⟩) m.vars.length cv) cs (.slice (some ⟨b2, o2, none⟩) scope.length csv) scope vals out w) := hT
    have HVB : Hid (∀ x ∈ vals, -50 ≤ x ∧ x ≤ 50) := hvb
    have HVL : Hid (vals.length = m.vars.length) := hvl
    have HA : Hid (a < 2 ^ 36) := ha
    have HALL : Hid (ptsN m.vars c j rest vals a lo n = pointsN m.vars c ((j : Int) :: rest) vals a) := by show _ = _; rw [← hlo, ← hn]; exact ptsN_all m.vars c j rest vals a
    obtain ⟨X, hX⟩ : ∃ X, 6 ^ rest.length = X := ⟨_, rfl⟩
    have hbud2 : out.length + 6 * X ≤ 10000000 := by
      rw [List.length_cons, Nat.pow_succ] at hbud
      omega
    have HCNT : Hid (∀ jj, (ptsN m.vars c j rest vals a lo jj).length ≤ jj * X) := fun jj => by rw [← hX]; exact ptsN_count m.vars HVA.out.1 c j rest vals a lo jj
    have HIH : Hid (∀ (vals : List Int) (a : Nat) (out : List Nat) (w : World), vals.length = m.vars.length → (∀ x ∈ vals, -50 ≤ x ∧ x ≤ 50) → a < 2 ^ 36 → out.length + X ≤ 10000000 →
      PtsS N bs bm bc m con (.slice (some ⟨b, off, none⟩) m.vars.length cv) cs (.slice (some ⟨b2, o2, none⟩) scope.length csv) scope vals out w →
      Calls Tryz.prog 142 #[.int .i64 ((k : Int) + 1), .int .u64 a, .pointer (some ⟨bs, 0, none⟩), .pointer (some ⟨bm, 0, none⟩), .pointer (some ⟨bc, 0, none⟩), .pointer (some ⟨N + 1, 0, none⟩), .pointer (some ⟨N + 2, 0, none⟩), .pointer (some ⟨N + 3, 0, none⟩)] w fun e w' => e = .returned (.tuple #[]) ∧
        ∃ vals', PtsS N bs bm bc m con (.slice (some ⟨b, off, none⟩) m.vars.length cv) cs (.slice (some ⟨b2, o2, none⟩) scope.length csv) scope vals' (out ++ pointsN m.vars c rest vals a) w' ∧ vals'.length = m.vars.length ∧ (∀ x ∈ vals', -50 ≤ x ∧ x ≤ 50) ∧ Agree rest vals vals' ∧ Below N w w') := by
      intro vals1 a1 out1 w1 q1 q2 q3 q4 q5
      exact ih (k + 1) vals1 a1 out1 w1 hdr2 (by omega) q1 q2 q3 (by rw [hX]; exact q4) q5
    have HONE : Hid (∀ (jj : Nat) (w' : World), jj < n → VArg w' (.slice (some ⟨b, off, none⟩) m.vars.length cv) m.vars → Calls Tryz.prog 143 #[.slice (some ⟨b, off, none⟩) m.vars.length cv, .int .i64 j, .int .i64 (lo + (jj : Int))] w' fun e w'' => e = .returned (.int .u64 ((2 ^ (6 * j + jj) : Nat) : Int)) ∧ w'' = w') := by
      intro jj w' hjj hva'
      have h1 := one_any m.vars HVA.out.1 j (lo + (jj : Int)) _ w' hva' hjs (by rw [HLO.out]; omega) (by rw [HHI.out]; omega) (by rw [HLO.out, HHI.out]; omega)
      rw [HLO.out, show (lo + (jj : Int) - lo).toNat = jj by omega] at h1
      exact h1
    have HPOW : Hid (∀ jj, jj < n → 2 ^ (6 * j + jj) < 2 ^ 36) := fun jj hjj => pow_lt36 m.vars HVA.out j jj hjs (by omega)
    have g0 : ((k : Int) == (scope.length : Int)) = false := by simp; omega
    have hlt8 : k < 8 := by omega
    clear hT hvb hdr hvl hbud hrv hscell ih hX hdr2 hkv hv0 hv1 hlo hhi hn ha
    go_enter Tryz.func142, Tryz.ntmps142
    go_wp2_with fail
    clear d0 d1 e0 f1 f2
    go_loopw [11] (fun i wr => ∃ (jj : Nat) (vals' : List Int), jj ≤ n ∧ i = .int .i64 (lo + (jj : Int)) ∧ PtsS N bs bm bc m con (.slice (some ⟨b, off, none⟩) m.vars.length cv) cs (.slice (some ⟨b2, o2, none⟩) scope.length csv) scope vals' (out ++ ptsN m.vars c j rest vals a lo jj) wr ∧ Hid (vals'.length = m.vars.length ∧ (∀ x ∈ vals', -50 ≤ x ∧ x ≤ 50) ∧ Agree ((j : Int) :: rest) vals vals') ∧ Below N w wr) (fun i _ => (hi + 1 - intOf i).toNat)
    case atStart => exact ⟨0, vals, by omega, by simp, by simpa [ptsN] using HT.out, ⟨HVL.out, HVB.out, Agree.refl _ _⟩, Below.refl _ _⟩
    case round =>
      obtain ⟨jj, vals', hjj, rfl, hTr, hH, hbw⟩ := hrel
      have HTR : Hid (PtsS N bs bm bc m con (.slice (some ⟨b, off, none⟩) m.vars.length cv) cs (.slice (some ⟨b2, o2, none⟩) scope.length csv) scope vals' (out ++ ptsN m.vars c j rest vals a lo jj) wr) := hTr
      have HBW : Hid (Below N w wr) := hbw
      clear hTr hbw
      obtain ⟨hma, _, _, d1, _, _, _, lm, _⟩ := HTR.out.old
      obtain ⟨lb, f1, f2⟩ := var_cells hma.1 j hjs
      rw [HLO.out] at f1
      rw [HHI.out] at f2
      clear hma
      by_cases hlt : jj < n
      · have hle : lo + (jj : Int) ≤ hi := by omega
        have hjv : j < vals'.length := by rw [hH.out.1]; exact hjs
        have d4 := HTR.out.2.2.2.1
        have HOW := HTR.out.2.2.1
        have hNl : N + 4 ≤ wr.heap.size := HTR.out.1
        obtain ⟨y, hy⟩ : ∃ y, vals'[j]? = some y := ⟨vals'[j], by simp [hjv]⟩
        have cN : wr.cell? ⟨N, j, none⟩ = some (.int .i64 y) := by rw [HOW.cellAt j (by omega), List.getElem?_map, hy]; rfl
        have zN := HOW.frozenAt j
        have HSET := HTR.out.set j (lo + (jj : Int))
        have hxb : -50 ≤ lo + (jj : Int) ∧ lo + (jj : Int) ≤ 50 := by omega
        have HST : Hid (PtsS N bs bm bc m con (.slice (some ⟨b, off, none⟩) m.vars.length cv) cs (.slice (some ⟨b2, o2, none⟩) scope.length csv) scope (vals'.set j (lo + (jj : Int))) (out ++ ptsN m.vars c j rest vals a lo jj) (wr.setCell ⟨N, j, none⟩ (.int .i64 (lo + (jj : Int))))) := HSET.1
        have HSB : Hid (Below N w (wr.setCell ⟨N, j, none⟩ (.int .i64 (lo + (jj : Int))))) := HBW.out.trans HSET.2
        have HV1 : Hid ((vals'.set j (lo + (jj : Int))).length = m.vars.length) := by show _ = _; rw [List.length_set]; exact hH.out.1
        have HV2 : Hid (∀ y ∈ vals'.set j (lo + (jj : Int)), -50 ≤ y ∧ y ≤ 50) := bounds_set _ _ _ hH.out.2.1 hxb
        have HBU : Hid ((out ++ ptsN m.vars c j rest vals a lo jj).length + X ≤ 10000000) := by
          have h1 := HCNT.out jj
          have h2 : jj * X ≤ 5 * X := Nat.mul_le_mul_right _ (by omega)
          show _ ≤ _
          rw [List.length_append]
          omega
        have HNX : Hid (ptsN m.vars c j rest vals a lo (jj + 1) = ptsN m.vars c j rest vals a lo jj ++ pointsN m.vars c rest (vals'.set j (lo + (jj : Int))) (a ||| 2 ^ (6 * j + jj))) := by
          show _ = _
          rw [ptsN_next]
          congr 1
          have h := (hH.out.2.2).set (lo + (jj : Int))
          exact points_same m.vars c rest _ _ _ h
        have HAG : Hid (Agree ((j : Int) :: rest) vals (vals'.set j (lo + (jj : Int)))) := (hH.out.2.2).trans (Agree.of_set rest vals' (j : Int) (lo + (jj : Int)))
        have hp36 := HPOW.out jj hlt
        obtain ⟨t, ht⟩ : ∃ t, 2 ^ (6 * j + jj) = t := ⟨_, rfl⟩
        have HO1 := HONE.out jj
        rw [ht] at hp36 HNX HO1
        have HON : Hid (∀ (w' : World), VArg w' (.slice (some ⟨b, off, none⟩) m.vars.length cv) m.vars → Calls Tryz.prog 143 #[.slice (some ⟨b, off, none⟩) m.vars.length cv, .int .i64 j, .int .i64 (lo + (jj : Int))] w' fun e w'' => e = .returned (.int .u64 (t : Int)) ∧ w'' = w') := fun w' h => HO1 w' hlt h
        have hor := bits_or_u64_nat a t (by have := HA.out; omega) (by omega)
        obtain ⟨a2, ha2⟩ : ∃ a2, a ||| t = a2 := ⟨_, rfl⟩
        have HA2 : Hid (a2 < 2 ^ 36) := by rw [← ha2]; exact or_lt36 HA.out hp36
        rw [ha2] at hor HNX
        clear hy HOW HSET hH hxb ht HO1 hp36 ha2
        go_wp2_with fail
        obtain ⟨W2, hW2⟩ : ∃ W2, wr.setCell ⟨N, j, none⟩ (.int .i64 (lo + (jj : Int))) = W2 := ⟨_, rfl⟩
        rw [hW2] at HST HSB ⊢
        clear hW2 d1 f1 f2 d4 cN zN lm lb hNl
        obtain ⟨hma, _, _, d1, _, _, _, lm, _⟩ := HST.out.old
        have d5 := HST.out.2.2.2.2.1
        unfold ptsCaps at d5
        have HMV : Hid (VArg W2.drew (.slice (some ⟨b, off, none⟩) m.vars.length cv) m.vars) := VArg.below (Below.refl _ _).drew hma.1
        have HSTD : Hid (PtsS N bs bm bc m con (.slice (some ⟨b, off, none⟩) m.vars.length cv) cs (.slice (some ⟨b2, o2, none⟩) scope.length csv) scope (vals'.set j (lo + (jj : Int))) (out ++ ptsN m.vars c j rest vals a lo jj) W2.drew) := HST.out.below (Below.refl _ _).drew
        clear hma
        have hwk : IntKind.i64.wrap ((k : Int) + 1) = (k : Int) + 1 := by simp [IntKind.wrap, IntKind.signed, IntKind.bits]; omega
        go_region_held3 (fun w' => w'.cell? ⟨N + 3, 0, none⟩ = some (.func (.func 142) #[] #[.pointer (some ⟨bs, 0, none⟩), .pointer (some ⟨bm, 0, none⟩), .pointer (some ⟨bc, 0, none⟩), .pointer (some ⟨N + 1, 0, none⟩), .pointer (some ⟨N + 2, 0, none⟩), .pointer (some ⟨N + 3, 0, none⟩)]) ∧ w'.cell? ⟨bm, 0, none⟩ = some (.slice (some ⟨b, off, none⟩) m.vars.length cv))
          (first | exact ⟨d5, d1⟩ | assumption | exact ⟨hd5, hd1⟩)
          (first
            | (go_at_call 143; refine (HON.out _ HMV.out).mono ?_; rintro e w2 ⟨rfl, rfl⟩)
            | (go_at_call 142; refine (HIH.out _ _ _ _ HV1.out HV2.out HA2.out HBU.out HSTD.out).mono ?_; rintro e w2 ⟨rfl, v2, hT2, hl2, hb2', hag2, hbN2⟩; have hd5 := hT2.2.2.2.2.1; unfold ptsCaps at hd5; have hd1 := hT2.old.2.2.2.1))
        · have HT2 : Hid (PtsS N bs bm bc m con (.slice (some ⟨b, off, none⟩) m.vars.length cv) cs (.slice (some ⟨b2, o2, none⟩) scope.length csv) scope v2 (out ++ ptsN m.vars c j rest vals a lo (jj + 1)) w2) := by
            rw [HNX.out, ← List.append_assoc]; exact hT2
          have HH2 : Hid (v2.length = m.vars.length ∧ (∀ x ∈ v2, -50 ≤ x ∧ x ≤ 50) ∧ Agree ((j : Int) :: rest) vals v2) := ⟨hl2, hb2', HAG.out.trans (Agree.cons _ hag2)⟩
          have HB2 : Hid (Below N w w2) := HSB.out.trans ((Below.refl _ _).drew.trans hbN2)
          clear hT2 hl2 hb2' hag2 hbN2 hd5 hd1
          go_wp2
          go_roundw
          case rel => exact ⟨jj + 1, v2, by omega, by go_num, HT2.out, HH2, HB2.out⟩
          case measure => simp [intOf]; omega
      · have hle : ¬ (lo + (jj : Int) ≤ hi) := by omega
        have hje : jj = n := by omega
        have HF : Hid (PtsS N bs bm bc m con (.slice (some ⟨b, off, none⟩) m.vars.length cv) cs (.slice (some ⟨b2, o2, none⟩) scope.length csv) scope vals' (out ++ pointsN m.vars c ((j : Int) :: rest) vals a) wr) := by
          have h := HTR.out
          rw [hje, HALL.out] at h
          exact h
        clear hje
        go_wp2
        go_end0
        exact ⟨rfl, vals', HF.out, hH.out.1, hH.out.2.1, hH.out.2.2, HBW.out⟩
end Go.Proofs.YtijohkhpigjbkaeGreatDoor
/-
  WALK: package fence: Points.
-/
namespace Go.Proofs.YtijohkhpigjbkaeGreatDoor
open Go.RowKit

theorem own_parts {w : World} {base : Nat} {v : Value} {l : List Nat} (h : w.ownsRow base 118 1 v l.length (u64s l)) (hl : ∀ z ∈ l, z < 2 ^ 36) : PArg w v l := by
  rcases h.2 with ⟨rfl, hn⟩ | ⟨g, cap, cur, rfl, hg, hh, hc1, hc2, _, _⟩
  · have : l = [] := List.eq_nil_of_length_eq_zero hn
    subst this
    exact ⟨none, 0, rfl, ⟨Nat.le_refl _, Nat.zero_le _⟩, fun i z hz => by simp at hz⟩
  · refine ⟨_, cap, rfl, ⟨hc1, hc2⟩, fun i z hz => ⟨hl z (List.mem_of_getElem? hz), g, 0, rfl, (Array.getElem?_eq_some_iff.1 hh).1, ?_⟩⟩
    have hi : i < l.length := (List.getElem?_eq_some_iff.1 hz).1
    rw [Nat.zero_add, h.cellAt i (by omega)]
    unfold u64s
    rw [List.getElem?_map, hz]; rfl
theorem scope_short (m : Mod) (hm : checkM m = 0) (j : Nat) (c : MCon) (hc : m.cons[j]? = some c) : (scopeC c).length ≤ 8 := by
  obtain ⟨hn4, hl4, _, _⟩ := many_not c (con_facts _ _ (con_ok m hm j c hc)).2.1
  have h1 := compI_len (sortI (scopeL c))
  rw [sortI_len] at h1
  show (compI (sortI (scopeL c))).length ≤ 8
  have h2 : (scopeL c).length = c.vars.length + c.lits.length := by simp [scopeL]
  omega
theorem Tryz.infoIntF : (Tryz.prog.info? 3).map (fun i => (i.zero, i.size, i.bytes)) = some (some (.int .i64 0), 1, 8) := by kernel_rfl
theorem Tryz.underIntsF : Tryz.prog.underlying 39 = some (.slice 3) := by kernel_rfl
theorem zeros_own (w : World) (n base : Nat) (hn : n ≤ 6) (hb : base ≤ w.heap.size) : (w.alloc (.cells (madeCells #[.int .i64 0] n) 3)).ownsRow base 3 1 (.slice (some ⟨w.heap.size, 0, none⟩) n n) n ((zerosOf n).map (Value.int .i64)) := by
  refine ⟨by simp [zerosOf], Or.inr ⟨w.heap.size, n, _, rfl, hb, heap_alloc_new w _, Nat.le_refl _, by unfold maxLen; omega, ?_, ?_⟩⟩
  · have h := congrArg List.length (toList_madeCells_one (.int .i64 0) n)
    simp at h
    simpa using h
  · rw [toList_madeCells_one]
    simp [zerosOf]

def ptsObjs (N bs bm bc n : Nat) (W : World) : World := (((W.alloc (.cells (madeCells #[.int .i64 0] n) 3)).alloc (.cells #[.slice (some ⟨N, 0, none⟩) n n] 39)).alloc (.cells #[.slice none 0 0] 122)).alloc (.cells #[.func (.func 142) #[] (ptsCaps N bs bm bc)] 178)
theorem pts_new {W : World} {N bs bm bc con n : Nat} {m : Mod} {vs cs sv : Value} {scope : List Int} (hN : W.heap.size = N) (hn : n ≤ 6)
    (hW : MArg W vs cs m ∧ IArg W sv scope ∧ W.cell? ⟨bs, 0, none⟩ = some sv ∧ W.cell? ⟨bm, 0, none⟩ = some vs ∧ W.cell? ⟨bm, 1, none⟩ = some cs ∧ W.cell? ⟨bc, 0, none⟩ = some (.int .i64 con)) :
    PtsS N bs bm bc m con vs cs sv scope (zerosOf n) [] (ptsObjs N bs bm bc n W) ∧ Below N W (ptsObjs N bs bm bc n W) := by
  subst hN
  have hzl : (zerosOf n).length = n := by simp [zerosOf]
  have r1 := zeros_own W n W.heap.size hn (Nat.le_refl _)
  have r3 := World.ownsRow_lit (base := W.heap.size) (e := 122) (size := 1) ((W.alloc (.cells (madeCells #[.int .i64 0] n) 3)).alloc (.cells #[.slice (some ⟨W.heap.size, 0, none⟩) n n] 39)) #[.slice none 0 0] 1 (by simp; omega) (by unfold maxLen; omega) rfl
  have e3 : ((W.alloc (.cells (madeCells #[.int .i64 0] n) 3)).alloc (.cells #[.slice (some ⟨W.heap.size, 0, none⟩) n n] 39)).heap.size = W.heap.size + 2 := by simp
  rw [e3] at r3
  have hsz : (ptsObjs W.heap.size bs bm bc n W).heap.size = W.heap.size + 4 := by unfold ptsObjs; simp
  have hb : Below W.heap.size W (ptsObjs W.heap.size bs bm bc n W) := (((below_alloc _ _).alloc (by simp) _).alloc (by simp; omega) _).alloc (by simp; omega) _
  have q1 : (ptsObjs W.heap.size bs bm bc n W).ownsRow W.heap.size 3 1 (.slice (some ⟨W.heap.size, 0, none⟩) n n) n ((zerosOf n).map (Value.int .i64)) := ((r1.alloc _).alloc _).alloc _
  refine ⟨⟨by omega, ⟨W, Nat.le_refl _, hW, hb⟩, by rw [hzl]; exact q1, ?_, ?_, .slice none 0 0, r3.alloc _, World.ownsRow_nil _ _ _ _⟩, hb⟩
  · rw [hzl]
    unfold ptsObjs
    rw [World.cell?_alloc_past _ _ _ (by simp), World.cell?_alloc_past _ _ _ (by simp)]
    exact World.cell?_alloc_at _ _ _ 0 (by simp)
  · unfold ptsObjs
    exact World.cell?_alloc_at _ _ _ 0 (by simp)

set_option maxHeartbeats 1600000 in
set_option maxRecDepth 100000 in
theorem points_own (m : Mod) (con : Nat) (c : MCon) (vs cs : Value) (w : World) (hm : checkM m = 0) (hc : m.cons[con]? = some c) (hma : MArg w vs cs m) :
    Calls Tryz.prog 82 #[modV vs cs m, .int .i64 con] w fun e w' => ∃ x, e = .returned x ∧ w'.ownsRow w.heap.size 118 1 x (pointsP m.vars c).length (u64s (pointsP m.vars c)) ∧ Below w.heap.size w w' := by
  have HMA : Hid (∀ w', Below w.heap.size w w' → MArg w' vs cs m) := fun w' h => MArg.below h hma
  have HM : Hid (checkM m = 0) := hm
  have HC : Hid (m.cons[con]? = some c) := hc
  have H6 : m.vars.length ≤ 6 := (checkM_vars m hm).2.1
  have hcon : con < m.cons.length := (List.getElem?_eq_some_iff.1 hc).1
  have HSC : Hid (scopeA m (con : Int) = (scopeC c, 0)) := by
    show _ = _
    have h1 : conCheck m (con : Int) = 0 := by unfold conCheck; rw [if_pos hm, if_neg (by omega)]
    unfold scopeA
    rw [if_pos h1, Int.toNat_natCast, List.getD_eq_getElem?_getD, hc]; rfl
  have hmk := run_make_row' (P := Tryz.prog) 39 3 (.int .i64 0) 8 Tryz.underIntsF Tryz.infoIntF rfl .i64 .i64 m.vars.length (by omega) (by omega)
  obtain ⟨⟨a1, c1, rfl, hm1, _⟩, ⟨a2, c2, rfl, _, _⟩⟩ := hma
  unfold maxLen at hm1
  obtain ⟨hm11, hm1⟩ := hm1
  unfold modV
  clear hm hc
  go_enter Tryz.func82, Tryz.ntmps82
  go_wp2_with fail
  refine (mscope_any m (con : Int) _ _ _ (HMA.out _ ((below_alloc _ _).alloc (by simp) _))).mono ?_
  rw [HSC.out]
  rintro e w1 ⟨x, rfl, hx, hb1⟩
  have hbw : Below w.heap.size w w1 := ((below_alloc _ _).alloc (by simp) _).trans (hb1.mono (by simp; omega))
  have hq0 : w1.cell? ⟨w.heap.size, 0, none⟩ = some (.slice a1 m.vars.length c1) := (hb1.cell (by simp; omega)).trans ((World.cell?_alloc_past _ _ _ (by simp)).trans (World.cell?_alloc_at _ _ _ 0 (by simp)))
  have hq1 : w1.cell? ⟨w.heap.size, 1, none⟩ = some (.slice a2 m.cons.length c2) := (hb1.cell (by simp; omega)).trans ((World.cell?_alloc_past _ _ _ (by simp)).trans (World.cell?_alloc_at _ _ _ 1 (by simp)))
  have hq2 : w1.cell? ⟨w.heap.size + 1, 0, none⟩ = some (.int .i64 con) := (hb1.cell (by simp)).trans (World.cell?_alloc_at _ _ _ 0 (by simp))
  have hl0 : w.heap.size + 1 < w1.heap.size := by have := hb1.size; simp at this; omega
  have hl1 : w.heap.size < w1.heap.size := by omega
  have HX : Hid (IArg w1 x (scopeC c)) := hx
  obtain ⟨ax, cx, rfl, _, _⟩ := hx
  have HBW : Hid (Below w.heap.size w w1) := hbw
  have HSCI : Hid (∀ v ∈ scopeC c, 0 ≤ v ∧ v < (m.vars.length : Int)) := (scope_in m HM.out con c HC.out).1
  have HS8 : Hid ((scopeC c).length ≤ 8) := scope_short m HM.out con c HC.out
  have HPN : Hid (_) := pts_new (W := w1.alloc (.cells #[.slice ax (scopeC c).length cx] 39)) (N := w1.heap.size + 1) (bs := w1.heap.size) (bm := w.heap.size) (bc := w.heap.size + 1) (con := con) (n := m.vars.length) (m := m) (scope := scopeC c) (by simp) H6
    ⟨HMA.out _ (HBW.out.alloc HBW.out.size _), IArg.below (below_alloc _ _) HX.out, World.cell?_alloc_at _ _ _ 0 (by simp), (World.cell?_alloc_past _ _ _ hl1).trans hq0, (World.cell?_alloc_past _ _ _ hl1).trans hq1, (World.cell?_alloc_past _ _ _ hl0).trans hq2⟩
  clear hb1 hbw
  go_wp2_with fail
  have HB5 : Hid (Below w.heap.size w (ptsObjs (w1.heap.size + 1) w1.heap.size w.heap.size (w.heap.size + 1) m.vars.length (w1.alloc (.cells #[.slice ax (scopeC c).length cx] 39)))) := (HBW.out.alloc HBW.out.size _).trans (HPN.out.2.mono (by have := HBW.out.size; omega))
  have HZL : Hid ((zerosOf m.vars.length).length = m.vars.length) := by show _ = _; simp [zerosOf]
  refine (pts_any (w1.heap.size + 1) w1.heap.size w.heap.size (w.heap.size + 1) m con c _ _ _ (scopeC c) HM.out HC.out HSCI.out HS8.out (scopeC c) 0 (zerosOf m.vars.length) 0 [] (ptsObjs (w1.heap.size + 1) w1.heap.size w.heap.size (w.heap.size + 1) m.vars.length (w1.alloc (.cells #[.slice ax (scopeC c).length cx] 39))) rfl (Nat.zero_le _) HZL.out (fun x hx => by have := List.eq_of_mem_replicate hx; omega) (by omega) ?_ HPN.out.1).mono ?_
  · have h2 : 6 ^ (scopeC c).length ≤ 6 ^ 8 := Nat.pow_le_pow_right (by omega) HS8.out
    simp only [List.length_nil]
    omega
  rintro e w2 ⟨rfl, vals', hT2, _, _, _, hb2⟩
  have HB6 : Hid (Below w.heap.size w w2) := HB5.out.trans (hb2.mono (by have := HBW.out.size; omega))
  obtain ⟨hsz, _, _, _, _, ov, ho, hr⟩ := hT2
  have HPA : Hid (w2.ownsRow w.heap.size 118 1 ov (pointsP m.vars c).length (u64s (pointsP m.vars c))) := World.ownsRow.mono hr (by have := HBW.out.size; omega)
  obtain ⟨ao, co, rfl⟩ := own_form hr
  have hco : w2.cell? ⟨w1.heap.size + 1 + 1 + 1, 0, none⟩ = some (.slice ao ([] ++ pointsN m.vars c (scopeC c) (zerosOf m.vars.length) 0).length co) := ho.cellAt 0 (by omega)
  have hlo : w1.heap.size + 1 + 1 + 1 < w2.heap.size := by omega
  clear hr ho hb2 HPN
  go_wp2
  go_ret
  exact ⟨_, rfl, HPA.out, HB6.out⟩
theorem pointsP_lt (m : Mod) (hm : checkM m = 0) (j : Nat) (c : MCon) (hc : m.cons[j]? = some c) : ∀ z ∈ pointsP m.vars c, z < 2 ^ 36 := points_lt m.vars (vars_all m hm) c _ _ _ (scope_in m hm j c hc).1 (by omega)
theorem points_any (m : Mod) (con : Nat) (c : MCon) (vs cs : Value) (w : World) (hm : checkM m = 0) (hc : m.cons[con]? = some c) (hma : MArg w vs cs m) :
    Calls Tryz.prog 82 #[modV vs cs m, .int .i64 con] w fun e w' => ∃ x, e = .returned x ∧ PArg w' x (pointsP m.vars c) ∧ Below w.heap.size w w' :=
  (points_own m con c vs cs w hm hc hma).mono fun _ _ ⟨x, h1, h2, h3⟩ => ⟨x, h1, own_parts h2 (pointsP_lt m hm con c hc), h3⟩
end Go.Proofs.YtijohkhpigjbkaeGreatDoor
/-
  Sets of pairs of numbers: a map whose keys are arrays of two.
-/
namespace Go.Proofs.YtijohkhpigjbkaeGreatDoor
open Go.RowKit Go.Maps

theorem Tryz.pairUnder : Tryz.prog.underlying 96 = some (.array 2 3) := by kernel_rfl
theorem Tryz.pairWide : (match Tryz.prog.underlying 96 with | some (.array _ _) | some (.struct _) => true | _ => false) = true := by rw [Tryz.pairUnder]
theorem Tryz.pairRow : (96 : Nat) < Tryz.prog.types.size := of_decide_eq_true (by kernel_rfl)
theorem Tryz.pairLaid : laidOutB Tryz.prog = true := by kernel_rfl
theorem Tryz.pairCells : Tryz.prog.cellsOf 96 = 2 := by kernel_rfl
theorem Tryz.pairCell : Tryz.prog.cellsOf 3 = 1 := by kernel_rfl
set_option maxRecDepth 100000 in
theorem Tryz.pairKeyed : Keyed Tryz.prog 96 := Keyed.of_law (deep_law_laid Tryz.pairLaid (m := 2) (by omega) Tryz.pairRow (by kernel_rfl) Tryz.pairWide)
theorem Tryz.pairType : Tryz.prog.keyType 96 = true := by kernel_rfl
theorem Tryz.unitZero (w : World) : (zeroValue 94).run Tryz.prog w = .ok (.agg #[]) w := by kernel_rfl

/-- What such a key reads as. -/
def pairK (a b : Int) : Lit := .string (keyBytes [.int .i64 a, .int .i64 b])
def okInt (a : Int) : Prop := -1000000 ≤ a ∧ a ≤ 1000000
theorem ok_wf {a : Int} (h : okInt a) : (Lit.int .i64 a).wf = true := WalkArith.wf_i64 (by unfold okInt at h; omega)
theorem pair_lits (d : Nat) (a b : Int) (ha : okInt a) (hb : okInt b) : Tryz.prog.keyLits (d + 2) 96 [.int .i64 a, .int .i64 b] = some [.int .i64 a, .int .i64 b] := by
  have h0 : Tryz.prog.underlying 3 = some (.int .i64) := Tryz.underlying3
  unfold Program.keyLits
  simp only [Tryz.pairUnder, Tryz.pairCells, Tryz.pairCell]
  simp [List.range_succ, Program.keyLits, h0, ok_wf ha, ok_wf hb]
theorem keyOf_pair (a b : Int) (ha : okInt a) (hb : okInt b) : keyOf Tryz.prog 96 (.agg #[.int .i64 a, .int .i64 b]) = some (pairK a b) := by
  have hf : (Value.agg #[.int .i64 a, .int .i64 b]).formed Tryz.prog 96 = true := by simp [Value.formed, Tryz.pairCells]
  have hs : ∃ d, Tryz.prog.types.size + 1 = d + 2 := ⟨Tryz.prog.types.size - 1, by have := Tryz.pairRow; omega⟩
  obtain ⟨d, hd⟩ := hs
  unfold keyOf
  rw [Tryz.pairUnder]
  simp only [Tryz.pairType, hf, Bool.and_self, if_true]
  rw [hd]
  show Option.map _ (Tryz.prog.keyLits (d + 2) 96 [.int .i64 a, .int .i64 b]) = _
  rw [pair_lits d a b ha hb]
  rfl
theorem pairK_inj {a b c d : Int} (ha : okInt a) (hb : okInt b) (hc : okInt c) (hd : okInt d) (h : pairK a b = pairK c d) : a = c ∧ b = d := by
  have h1 := keyOf_pair a b ha hb
  have h2 := keyOf_pair c d hc hd
  rw [← h] at h2
  have := Tryz.pairKeyed.inj h1 h2
  simp at this
  exact this

def okPair (p : Int × Int) : Prop := okInt p.1 ∧ okInt p.2
def setP {H : Type} (l : List (Int × Int)) : DataW H := setOf (.agg []) (l.map fun p => pairK p.1 p.2)
theorem setP_next {H : Type} (l : List (Int × Int)) (p : Int × Int) : setP (H := H) (l ++ [p]) = (setP l).put (pairK p.1 p.2) (.agg []) := by
  unfold setP; rw [List.map_append]; exact setOf_snoc _ _ _
theorem has_setP {H : Type} (l : List (Int × Int)) (p : Int × Int) (hl : ∀ q ∈ l, okPair q) (hp : okPair p) : Maps.has (setP (H := H) l) (pairK p.1 p.2) = l.contains p := by
  unfold setP
  rw [has_setOf _ _ _ (fun y hy => by obtain ⟨q, _, rfl⟩ := List.mem_map.1 hy; unfold pairK; trivial), List.any_map]
  rw [Bool.eq_iff_iff, List.any_eq_true, List.contains_iff_mem]
  constructor
  · rintro ⟨q, hq, he⟩
    have he2 : pairK q.1 q.2 = pairK p.1 p.2 := WideAt.sameKey_eq he
    obtain ⟨h1, h2⟩ := pairK_inj (hl q hq).1 (hl q hq).2 hp.1 hp.2 he2
    have : q = p := Prod.ext h1 h2
    rw [← this]; exact hq
  · intro h
    refine ⟨p, h, ?_⟩
    show (pairK p.1 p.2).sameKey (pairK p.1 p.2) = true
    exact WideAt.sameKey_self (by unfold pairK; trivial)
end Go.Proofs.YtijohkhpigjbkaeGreatDoor
/-
  A trial of values: how it lies in memory. WALK: package filter: meet.
-/
namespace Go.Proofs.YtijohkhpigjbkaeGreatDoor
open Go.RowKit Go.Maps

theorem Tryz.underPairs : Tryz.prog.underlying 89 = some (.map 96 94) := by kernel_rfl
def trialObj (c : MCon) (vv vc vr vl sv stv : Value) (V n M : Nat) : Obj :=
  .cells #[.int .i64 c.kind, vv, vc, .int .i64 c.n, vr, vl, sv, stv, .slice (some ⟨V, 0, none⟩) n n, .map (some M)] 91
def TrialS (N B V M : Nat) (c : MCon) (vv vc vr vl sv stv : Value) (scope : List Int) (s : Sto) (vals : List Int) (l : List (Int × Int)) (w : World) : Prop :=
  (N ≤ B ∧ N ≤ V ∧ N ≤ M ∧ B ≠ V ∧ B ≠ M ∧ V ≠ M) ∧
  w.heap[B]? = some (trialObj c vv vc vr vl sv stv V vals.length M) ∧
  Old N w (fun u => KArg u vv vc vr vl c ∧ IArg u sv scope ∧ RArg u stv s) ∧
  w.ownsRow N 3 1 (.slice (some ⟨V, 0, none⟩) vals.length vals.length) vals.length (vals.map (Value.int .i64)) ∧
  w.ownsMap Tryz.prog 96 unitElem M l.length (setP (H := Unit) l)

section
variable {N B V M : Nat} {c : MCon} {vv vc vr vl sv stv : Value} {scope : List Int} {s : Sto} {vals : List Int} {l : List (Int × Int)} {w w' : World}
theorem TrialS.lts (h : TrialS N B V M c vv vc vr vl sv stv scope s vals l w) : B < w.heap.size ∧ V < w.heap.size ∧ M < w.heap.size ∧ N ≤ w.heap.size := by
  obtain ⟨⟨h1, _⟩, h2, _, h4, ⟨es, cl, h5, _⟩⟩ := h
  have hb := (Array.getElem?_eq_some_iff.1 h2).1
  have hm := (Array.getElem?_eq_some_iff.1 h5).1
  exact ⟨hb, (h4.lt V rfl).2, hm, by omega⟩
theorem TrialS.below (h : TrialS N B V M c vv vc vr vl sv stv scope s vals l w) (hb : Below w.heap.size w w') : TrialS N B V M c vv vc vr vl sv stv scope s vals l w' := by
  obtain ⟨l1, l2, l3, l4⟩ := h.lts
  obtain ⟨h1, h2, h3, h4, ⟨es, cl, h5, r⟩⟩ := h
  exact ⟨h1, (hb.block B l1).trans h2, h3.below (hb.mono l4), own_below h4 hb, ⟨es, cl, (hb.block M l3).trans h5, r⟩⟩
theorem TrialS.drew (h : TrialS N B V M c vv vc vr vl sv stv scope s vals l w) : TrialS N B V M c vv vc vr vl sv stv scope s vals l w.drew := h.below (Below.refl _ _).drew
theorem TrialS.parts (h : TrialS N B V M c vv vc vr vl sv stv scope s vals l w) : KArg w vv vc vr vl c ∧ IArg w sv scope ∧ RArg w stv s := by
  obtain ⟨_, _, ⟨w0, h1, ⟨k1, k2, k3⟩, h3⟩, _, _⟩ := h
  exact ⟨KArg.below h3 k1, IArg.below h3 k2, RArg.below h3 k3⟩
theorem TrialS.vals_arg (h : TrialS N B V M c vv vc vr vl sv stv scope s vals l w) : IArg w (.slice (some ⟨V, 0, none⟩) vals.length vals.length) vals := own_ints h.2.2.2.1
/-- One more key. -/
theorem TrialS.put (h : TrialS N B V M c vv vc vr vl sv stv scope s vals l w) (p : Int × Int) (hm : w'.ownsMap Tryz.prog 96 unitElem M (l.length + 1) (setP (H := Unit) (l ++ [p]))) (hg : w.grownBy w' (some M)) :
    TrialS N B V M c vv vc vr vl sv stv scope s vals (l ++ [p]) w' ∧ Below N w w' := by
  obtain ⟨l1, l2, l3, l4⟩ := h.lts
  obtain ⟨⟨n1, n2, n3, n4, n5, n6⟩, h2, h3, h4, _⟩ := h
  have hb : Below N w w' := (Below.refl _ _).grown hg l4 (fun k hk => by cases hk; exact n3)
  refine ⟨⟨⟨n1, n2, n3, n4, n5, n6⟩, (hg.block B l1 (fun h => n5 (Option.some.inj h))).trans h2, h3.below hb, h4.kept hg (Or.inr fun h => n6 (Option.some.inj h)), by rw [List.length_append]; exact hm⟩, hb⟩
/-- One value set. -/
theorem TrialS.set (h : TrialS N B V M c vv vc vr vl sv stv scope s vals l w) (k : Nat) (x : Int) :
    TrialS N B V M c vv vc vr vl sv stv scope s (vals.set k x) l (w.setCell ⟨V, k, none⟩ (.int .i64 x)) ∧ Below N w (w.setCell ⟨V, k, none⟩ (.int .i64 x)) := by
  obtain ⟨l1, l2, l3, l4⟩ := h.lts
  obtain ⟨⟨n1, n2, n3, n4, n5, n6⟩, h2, h3, h4, ⟨es, cl, h5, r⟩⟩ := h
  have hb : Below N w (w.setCell ⟨V, k, none⟩ (.int .i64 x)) := (Below.refl _ _).setCell n2 _
  refine ⟨⟨⟨n1, n2, n3, n4, n5, n6⟩, ?_, h3.below hb, ?_, ⟨es, cl, (Below.heap_setCell _ _ _ _ (fun h => n6 h.symm)).trans h5, r⟩⟩, hb⟩
  · rw [List.length_set]; exact (Below.heap_setCell _ _ _ _ n4).trans h2
  · have := (h4.stored k (.int .i64 x)).1
    rw [List.length_set, List.map_set]
    exact this
end

theorem keys_next (scope vals : List Int) (k : Nat) (v : Int) (h : scope[k]? = some v) : keysOf (scope.take (k + 1)) vals = keysOf (scope.take k) vals ++ [(v, valAt vals v)] := by
  unfold keysOf; rw [List.take_add_one, h, List.map_append]; rfl

set_option maxHeartbeats 1600000 in
set_option maxRecDepth 100000 in
theorem meet_any (N B V M : Nat) (c : MCon) (vv vc vr vl sv stv : Value) (scope : List Int) (s : Sto) (vals : List Int) (l : List (Int × Int)) (w : World)
    (hT : TrialS N B V M c vv vc vr vl sv stv scope s vals l w) (hsc : ∀ v ∈ scope, 0 ≤ v ∧ v < vals.length) (hvb : ∀ x ∈ vals, -50 ≤ x ∧ x ≤ 50) (hn : scope.length ≤ 8) (hv6 : vals.length ≤ 6) (hbud : l.length + scope.length ≤ 1000000000) :
    Calls Tryz.prog 101 #[.pointer (some ⟨B, 0, none⟩)] w fun e w' => e = .returned (.tuple #[]) ∧ TrialS N B V M c vv vc vr vl sv stv scope s vals (l ++ keysOf scope vals) w' ∧ Below N w w' := by
  obtain ⟨asv, csv, hsv, hms, _⟩ := hT.parts.2.1
  subst hsv
  unfold maxLen at hms
  obtain ⟨hms1, hms⟩ := hms
  have b6 := bk_cell hT.2.1 6 _ rfl
  have HT : Hid (TrialS N B V M c vv vc vr vl (.slice asv scope.length csv) stv scope s vals l w) := hT
  have HSC : Hid (∀ v ∈ scope, 0 ≤ v ∧ v < (vals.length : Int)) := hsc
  have HVB : Hid (∀ x ∈ vals, -50 ≤ x ∧ x ≤ 50) := hvb
  clear hT hsc hvb
  go_enter Tryz.func101, Tryz.ntmps101
  go_wp2_with fail
  clear b6
  go_loopw [9] (fun i wr => ∃ k : Nat, k ≤ scope.length ∧ i = .int .i64 k ∧ TrialS N B V M c vv vc vr vl (.slice asv scope.length csv) stv scope s vals (l ++ keysOf (scope.take k) vals) wr ∧ Below N w wr) (fun i _ => scope.length - (intOf i).toNat)
  case atStart => exact ⟨0, by omega, rfl, by simpa [keysOf] using HT.out, Below.refl _ _⟩
  case round =>
    obtain ⟨k, hk, rfl, hTr, hbw⟩ := hrel
    have HTR : Hid (TrialS N B V M c vv vc vr vl (.slice asv scope.length csv) stv scope s vals (l ++ keysOf (scope.take k) vals) wr) := hTr
    have HBW : Hid (Below N w wr) := hbw
    clear hTr hbw
    by_cases hlt : k < scope.length
    · obtain ⟨z, hz⟩ : ∃ z, scope[k]? = some z := ⟨scope[k], by simp [hlt]⟩
      obtain ⟨hz0, hz1⟩ := HSC.out z (List.mem_of_getElem? hz)
      obtain ⟨j, rfl⟩ : ∃ j : Nat, z = (j : Int) := ⟨z.toNat, by omega⟩
      have hjl : j < vals.length := by omega
      obtain ⟨y, hy⟩ : ∃ y, vals[j]? = some y := ⟨vals[j], by simp [hjl]⟩
      have hyb := HVB.out y (List.mem_of_getElem? hy)
      obtain ⟨a', c', hva, _, hrc⟩ := HTR.out.parts.2.1
      obtain ⟨bs, os, hax, hbs, e0⟩ := hrc k _ hz
      have has : asv = some ⟨bs, os, none⟩ := by injection hva with e1; exact e1.trans hax
      subst has
      have c9 := bk_cell HTR.out.2.1 9 _ rfl
      have c8 := bk_cell HTR.out.2.1 8 _ rfl
      have HOW := HTR.out.2.2.2.1
      have cv : wr.cell? ⟨V, j, none⟩ = some (.int .i64 y) := by rw [HOW.cellAt j (by omega), List.getElem?_map, hy]; rfl
      obtain ⟨l1, l2, l3, l4⟩ := HTR.out.lts
      have hkey : keyOf Tryz.prog 96 (.agg #[.int .i64 (j : Int), .int .i64 y]) = some (pairK (j : Int) y) := keyOf_pair _ _ (by unfold okInt; omega) (by unfold okInt; omega)
      have hlen : (l ++ keysOf (scope.take k) vals).length < maxLen := by
        have : (keysOf (scope.take k) vals).length ≤ scope.length := by unfold keysOf; simp; omega
        rw [List.length_append]; unfold maxLen; omega
      obtain ⟨w1, hrun, hown1, hturn⟩ := World.ownsMap.store (w := wr.drew) HTR.out.drew.2.2.2.2 Tryz.pairKeyed Tryz.underPairs hlen hkey unitElem_mk
      have hgr := hturn.grown
      have hne : (B ≠ M ∧ V ≠ M) := ⟨HTR.out.1.2.2.2.2.1, HTR.out.1.2.2.2.2.2⟩
      have f9 : w1.cell? ⟨B, 9, none⟩ = some (.map (some M)) := hgr.cell (a := ⟨B, 9, none⟩) c9 (fun h => hne.1 (Option.some.inj h))
      have f8 : w1.cell? ⟨B, 8, none⟩ = some (.slice (some ⟨V, 0, none⟩) vals.length vals.length) := hgr.cell (a := ⟨B, 8, none⟩) c8 (fun h => hne.1 (Option.some.inj h))
      have fv : w1.cell? ⟨V, j, none⟩ = some (.int .i64 y) := hgr.cell (a := ⟨V, j, none⟩) cv (fun h => hne.2 (Option.some.inj h))
      have HPUT : Hid (TrialS N B V M c vv vc vr vl (.slice (some ⟨bs, os, none⟩) scope.length csv) stv scope s vals ((l ++ keysOf (scope.take k) vals) ++ [((j : Int), y)]) w1 ∧ Below N wr.drew w1) := HTR.out.drew.put ((j : Int), y) (by rw [setP_next]; exact hown1) hgr
      have HNX : Hid (keysOf (scope.take (k + 1)) vals = keysOf (scope.take k) vals ++ [((j : Int), y)]) := by
        show _ = _; rw [keys_next scope vals k _ hz, valAt_get vals j y hy]
      clear hz hy hva hrc hax HOW hkey hlen hown1 hturn hgr hne hz0 hz1
      go_wp2_with fail
      go_region_held3 (fun w' => w'.cell? ⟨B, 9, none⟩ = some (.map (some M)) ∧ w'.cell? ⟨B, 8, none⟩ = some (.slice (some ⟨V, 0, none⟩) vals.length vals.length) ∧ w'.cell? ⟨V, j, none⟩ = some (.int .i64 y)) (first | exact ⟨c9, c8, cv⟩ | exact ⟨f9, f8, fv⟩) (fail)
      go_wp2
      go_roundw
      case rel => exact ⟨k + 1, by omega, by go_num, by rw [HNX.out, ← List.append_assoc]; exact HPUT.out.1, HBW.out.trans ⟨HPUT.out.2.os, HPUT.out.2.tape, HPUT.out.2.output, HPUT.out.2.size, HPUT.out.2.block⟩⟩
      case measure => simp [intOf]; omega
    · have HF : Hid (TrialS N B V M c vv vc vr vl (.slice asv scope.length csv) stv scope s vals (l ++ keysOf scope vals) wr) := by
        have h := HTR.out
        rwa [List.take_of_length_le (by omega)] at h
      go_wp2
      go_end0
      exact ⟨rfl, HF.out, HBW.out⟩
end Go.Proofs.YtijohkhpigjbkaeGreatDoor
/-
  WALK: package filter: from.
-/
namespace Go.Proofs.YtijohkhpigjbkaeGreatDoor
open Go.RowKit Go.Maps

theorem reach_count (s : Sto) (h6 : ∀ r ∈ s, r.length ≤ 6) : ∀ (r vals : List Int), (reach s r vals).length ≤ 6 ^ r.length
  | [], vals => by simp [reach]
  | v :: r, vals => by
    unfold reach
    have hrow : (s.getD v.toNat []).length ≤ 6 := by
      rw [List.getD_eq_getElem?_getD]
      cases hq : s[v.toNat]? with
      | none => simp
      | some q => exact h6 q (List.mem_of_getElem? hq)
    have key : ∀ q : List Int, (q.flatMap fun x => reach s r (vals.set v.toNat x)).length ≤ q.length * 6 ^ r.length := by
      intro q
      induction q with
      | nil => simp
      | cons a q ih =>
        rw [List.flatMap_cons, List.length_append, List.length_cons]
        have := reach_count s h6 r (vals.set v.toNat a)
        rw [Nat.add_mul]
        omega
    have h1 := key (s.getD v.toNat [])
    have h2 : (s.getD v.toNat []).length * 6 ^ r.length ≤ 6 * 6 ^ r.length := Nat.mul_le_mul_right _ hrow
    rw [List.length_cons, Nat.pow_succ]
    omega
theorem metK_count (c : MCon) (scope : List Int) (us : List (List Int)) : (metK c scope us).length ≤ scope.length * us.length := by
  unfold metK
  induction us with
  | nil => simp
  | cons u us ih =>
    rw [List.flatMap_cons, List.length_append, List.length_cons, Nat.mul_add]
    have : (if holdsC c u then keysOf scope u else []).length ≤ scope.length := by
      split
      · simp [keysOf]
      · simp
    omega
theorem metK_append (c : MCon) (scope : List Int) (a b : List (List Int)) : metK c scope (a ++ b) = metK c scope a ++ metK c scope b := by
  unfold metK; rw [List.flatMap_append]
/-- What has been reached when so many values of a row are through. -/
def reachN (s : Sto) (v : Int) (r vals row : List Int) (j : Nat) : List (List Int) := (row.take j).flatMap fun x => reach s r (vals.set v.toNat x)
theorem reachN_next (s : Sto) (v : Int) (r vals row : List Int) (j : Nat) (x : Int) (h : row[j]? = some x) : reachN s v r vals row (j + 1) = reachN s v r vals row j ++ reach s r (vals.set v.toNat x) := by
  unfold reachN; rw [List.take_add_one, h, List.flatMap_append]; simp
set_option maxHeartbeats 3200000 in
set_option maxRecDepth 100000 in
theorem from_any (N B V M : Nat) (c : MCon) (vv vc vr vl sv stv : Value) (scope : List Int) (s : Sto)
    (hsc : ∀ v ∈ scope, 0 ≤ v ∧ v < s.length) (hce : conE s.length c = 0) (hs6 : s.length ≤ 6) (hrow : ∀ r ∈ s, r.length ≤ 6 ∧ ∀ x ∈ r, -50 ≤ x ∧ x ≤ 50) (hn8 : scope.length ≤ 8) :
    ∀ (rest : List Int) (k : Nat) (vals : List Int) (l : List (Int × Int)) (w : World), scope.drop k = rest → k ≤ scope.length → vals.length = s.length → (∀ x ∈ vals, -50 ≤ x ∧ x ≤ 50) → l.length + scope.length * 6 ^ rest.length ≤ 1000000000 →
      TrialS N B V M c vv vc vr vl sv stv scope s vals l w →
      Calls Tryz.prog 55 #[.pointer (some ⟨B, 0, none⟩), .int .i64 k] w fun e w' => e = .returned (.tuple #[]) ∧
        ∃ vals', TrialS N B V M c vv vc vr vl sv stv scope s vals' (l ++ metK c scope (reach s rest vals)) w' ∧ vals'.length = s.length ∧ (∀ x ∈ vals', -50 ≤ x ∧ x ≤ 50) ∧ Agree rest vals vals' ∧ Below N w w' := by
  have HSC : Hid (∀ v ∈ scope, 0 ≤ v ∧ v < (s.length : Int)) := hsc
  have HCE : Hid (conE s.length c = 0) := hce
  have HROW : Hid (∀ r ∈ s, r.length ≤ 6 ∧ ∀ x ∈ r, -50 ≤ x ∧ x ≤ 50) := hrow
  clear hsc hce hrow
  intro rest
  induction rest with
  | nil =>
    intro k vals l w hdr hk hvl hvb hbud hT
    have hks : k = scope.length := by
      have := congrArg List.length hdr
      simp at this
      omega
    subst hks
    obtain ⟨asv, csv, hsv, _, _⟩ := hT.parts.2.1
    subst hsv
    have HK : Hid (∀ w' : World, Below w.heap.size w w' → KArg w' vv vc vr vl c) := fun w' h => KArg.below h hT.parts.1
    have HVA : Hid (∀ w' : World, Below w.heap.size w w' → IArg w' (.slice (some ⟨V, 0, none⟩) vals.length vals.length) vals) := fun w' h => IArg.below h hT.vals_arg
    obtain ⟨⟨q1, r1, h1, _, _⟩, ⟨q2, r2, h2, _, _⟩, ⟨q3, r3, h3, _, _⟩, ⟨q4, r4, h4, _, _⟩⟩ := hT.parts.1
    subst h1; subst h2; subst h3; subst h4
    have b0 := bk_cell hT.2.1 0 _ rfl
    have b1 := bk_cell hT.2.1 1 _ rfl
    have b2 := bk_cell hT.2.1 2 _ rfl
    have b3 := bk_cell hT.2.1 3 _ rfl
    have b4 := bk_cell hT.2.1 4 _ rfl
    have b5 := bk_cell hT.2.1 5 _ rfl
    have b6 := bk_cell hT.2.1 6 _ rfl
    have b8 := bk_cell hT.2.1 8 _ rfl
    have hBl := hT.lts.1
    have HT : Hid (TrialS N B V M c (.slice q1 c.vars.length r1) (.slice q2 c.consts.length r2) (.slice q3 c.rows.length r3) (.slice q4 c.lits.length r4) (.slice asv scope.length csv) stv scope s vals l w) := hT
    have HVB : Hid (∀ x ∈ vals, -50 ≤ x ∧ x ≤ 50) := hvb
    have HVL : Hid (vals.length = s.length) := hvl
    have HNL : Hid (N ≤ w.heap.size) := hT.lts.2.2.2
    have HME : Hid (metK c scope (reach s [] vals) = if holdsC c vals then keysOf scope vals else []) := by show _ = _; simp [metK, reach]
    have hbud2 : l.length + scope.length ≤ 1000000000 := by simpa using hbud
    have hv6 : vals.length ≤ 6 := by omega
    clear hT hvb hdr hvl hbud
    go_enter Tryz.func55, Tryz.ntmps55
    go_wp2_with fail
    go_region_held3 (fun w' => Below w.heap.size w w' ∧ w'.cell? ⟨B, 0, none⟩ = some (.int .i64 c.kind) ∧ w'.cell? ⟨B, 1, none⟩ = some (.slice q1 c.vars.length r1) ∧ w'.cell? ⟨B, 2, none⟩ = some (.slice q2 c.consts.length r2) ∧ w'.cell? ⟨B, 3, none⟩ = some (.int .i64 c.n) ∧ w'.cell? ⟨B, 4, none⟩ = some (.slice q3 c.rows.length r3) ∧ w'.cell? ⟨B, 5, none⟩ = some (.slice q4 c.lits.length r4) ∧ w'.cell? ⟨B, 8, none⟩ = some (.slice (some ⟨V, 0, none⟩) vals.length vals.length))
      ((refine (fun (hB : Below w.heap.size w _) => ⟨hB, (hB.cell (p := ⟨B, 0, none⟩) hBl).trans b0, (hB.cell (p := ⟨B, 1, none⟩) hBl).trans b1, (hB.cell (p := ⟨B, 2, none⟩) hBl).trans b2, (hB.cell (p := ⟨B, 3, none⟩) hBl).trans b3, (hB.cell (p := ⟨B, 4, none⟩) hBl).trans b4, (hB.cell (p := ⟨B, 5, none⟩) hBl).trans b5, (hB.cell (p := ⟨B, 8, none⟩) hBl).trans b8⟩ : Below w.heap.size w _ → _) ?_; first | exact (Below.refl _ _).drew | exact hbq))
      (first
        | (go_at_call 57; refine (holds_any c vals _ _ _ _ _ _ (HK.out _ (Below.refl _ _).drew) (HVA.out _ (Below.refl _ _).drew) (by rw [HVL.out]; exact HCE.out) HVB.out).mono ?_; rintro e w1 ⟨rfl, hbr⟩; have hbq : Below w.heap.size w w1 := ⟨hbr.os, hbr.tape, hbr.output, hbr.size, hbr.block⟩))
    have HT1 : Hid (TrialS N B V M c (.slice q1 c.vars.length r1) (.slice q2 c.consts.length r2) (.slice q3 c.rows.length r3) (.slice q4 c.lits.length r4) (.slice asv scope.length csv) stv scope s vals l w1) := HT.out.below hbq
    have hbN : Below N w w1 := hbq.mono HNL.out
    clear hbr hbq b0 b1 b2 b3 b4 b5 b6 b8 hBl
    cases hq : holdsC c vals
    · rw [hq] at HME
      go_wp2
      (try simp only [Exit.inBlock, Exit.then])
      refine bodyPost_ret (results_none rfl _ _ _) rfl ?_
      refine ⟨rfl, vals, ?_, HVL.out, HVB.out, Agree.refl _ _, hbN⟩
      rw [HME.out]
      simpa using HT1.out
    · rw [hq] at HME
      go_wp2_with fail
      refine (meet_any N B V M c _ _ _ _ _ stv scope s vals l w1 HT1.out (by rw [HVL.out]; exact HSC.out) HVB.out hn8 hv6 hbud2).mono ?_
      rintro e w2 ⟨rfl, hT2, hb2⟩
      have HT2 : Hid (TrialS N B V M c (.slice q1 c.vars.length r1) (.slice q2 c.consts.length r2) (.slice q3 c.rows.length r3) (.slice q4 c.lits.length r4) (.slice asv scope.length csv) stv scope s vals (l ++ keysOf scope vals) w2) := hT2
      clear hT2
      go_wp2
      (try simp only [Exit.inBlock, Exit.then])
      refine bodyPost_ret (results_none rfl _ _ _) rfl ?_
      refine ⟨rfl, vals, ?_, HVL.out, HVB.out, Agree.refl _ _, hbN.trans hb2⟩
      rw [HME.out]
      exact HT2.out
  | cons v rest ih =>
    intro k vals l w hdr hk hvl hvb hbud hT
    have hkl : k < scope.length := by
      have := congrArg List.length hdr
      simp at this
      omega
    have hkv : scope[k]? = some v := by
      have h := congrArg (fun q : List Int => q[0]?) hdr
      simpa using h
    have hdr2 : scope.drop (k + 1) = rest := by
      have h := congrArg List.tail hdr
      simpa using h
    obtain ⟨hv0, hv1⟩ := HSC.out v (List.mem_of_getElem? hkv)
    obtain ⟨j, rfl⟩ : ∃ j : Nat, v = (j : Int) := ⟨v.toNat, by omega⟩
    have hjs : j < s.length := by omega
    obtain ⟨row, hrw⟩ : ∃ row, s[j]? = some row := ⟨s[j], by simp [hjs]⟩
    obtain ⟨hr6, hrb⟩ := HROW.out row (List.mem_of_getElem? hrw)
    obtain ⟨⟨_, _⟩, ⟨asv, csv, hsv, hms, hscell⟩, ⟨ast, cst, hst, hmt, hstcell⟩⟩ := hT.parts
    subst hsv; subst hst
    obtain ⟨bs, os, has, hbs, e0⟩ := hscell k _ hkv
    subst has
    obtain ⟨bt, ot, xt, hat, hbt, e1, hxt⟩ := hstcell j _ hrw
    subst hat
    have HXT : Hid (IArg w xt row) := hxt
    obtain ⟨ar, cr, rfl, hmr, hrc⟩ := hxt
    unfold maxLen at hms hmt hmr
    obtain ⟨hms1, hms⟩ := hms
    obtain ⟨hmt1, hmt⟩ := hmt
    obtain ⟨hmr1, hmr⟩ := hmr
    have b6 := bk_cell hT.2.1 6 _ rfl
    have b7 := bk_cell hT.2.1 7 _ rfl
    have HT : Hid (TrialS N B V M c vv vc vr vl (.slice (some ⟨bs, os, none⟩) scope.length csv) (.slice (some ⟨bt, ot, none⟩) s.length cst) scope s vals l w) := hT
    have HVB : Hid (∀ x ∈ vals, -50 ≤ x ∧ x ≤ 50) := hvb
    have HVL : Hid (vals.length = s.length) := hvl
    have HRB : Hid (∀ x ∈ row, -50 ≤ x ∧ x ≤ 50) := hrb
    have HRW : Hid (s[j]? = some row) := hrw
    have HOR : Hid (∀ w' : World, Below N w w' → IArg w' (.slice ar row.length cr) row) := by
      obtain ⟨_, _, ⟨w0, g1, ⟨_, _, g2⟩, g3⟩, _, _⟩ := hT
      obtain ⟨ast', cst', hst', _, hstc'⟩ := g2
      obtain ⟨bt', ot', xt', hat', hbt', e1', hxt'⟩ := hstc' j _ hrw
      injection hst' with hq
      rw [← hq] at hat'
      cases hat'
      have e2 := (g3.cell (p := ⟨bt, ot + j, none⟩) hbt').trans e1'
      rw [e1] at e2
      cases e2
      intro w' h
      exact IArg.below (g3.trans (h.mono g1)) hxt'
    obtain ⟨X, hX⟩ : ∃ X, scope.length * 6 ^ rest.length = X := ⟨_, rfl⟩
    have hbud2 : l.length + 6 * X ≤ 1000000000 := by
      rw [List.length_cons, Nat.pow_succ] at hbud
      rw [← hX]
      have : scope.length * (6 ^ rest.length * 6) = 6 * (scope.length * 6 ^ rest.length) := by rw [Nat.mul_comm (6 ^ rest.length) 6, ← Nat.mul_assoc, Nat.mul_comm scope.length 6, Nat.mul_assoc]
      omega
    have HRN : Hid (∀ jj, jj ≤ row.length → (metK c scope (reachN s (j : Int) rest vals row jj)).length ≤ jj * X) := by
      intro jj hjj
      refine Nat.le_trans (metK_count c scope _) ?_
      have h1 : (reachN s (j : Int) rest vals row jj).length ≤ jj * 6 ^ rest.length := by
        have key : ∀ q : List Int, (q.flatMap fun x => reach s rest (vals.set ((j : Int)).toNat x)).length ≤ q.length * 6 ^ rest.length := by
          intro q
          induction q with
          | nil => simp
          | cons a q ih2 =>
            rw [List.flatMap_cons, List.length_append, List.length_cons]
            have := reach_count s (fun r hr => (HROW.out r hr).1) rest (vals.set ((j : Int)).toNat a)
            rw [Nat.add_mul]
            omega
        unfold reachN
        have h2 := key (row.take jj)
        rw [List.length_take, Nat.min_eq_left hjj] at h2
        exact h2
      rw [← hX]
      calc scope.length * (reachN s (j : Int) rest vals row jj).length ≤ scope.length * (jj * 6 ^ rest.length) := Nat.mul_le_mul_left _ h1
        _ = jj * (scope.length * 6 ^ rest.length) := by rw [← Nat.mul_assoc, Nat.mul_comm scope.length jj, Nat.mul_assoc]
    have HEND : Hid (reachN s (j : Int) rest vals row row.length = reach s ((j : Int) :: rest) vals) := by
      show _ = _
      unfold reachN
      rw [List.take_length]
      conv => rhs; unfold reach
      rw [Int.toNat_natCast, List.getD_eq_getElem?_getD, hrw]; rfl
    have HIH : Hid (∀ (vals : List Int) (l : List (Int × Int)) (w : World), vals.length = s.length → (∀ x ∈ vals, -50 ≤ x ∧ x ≤ 50) → l.length + X ≤ 1000000000 →
      TrialS N B V M c vv vc vr vl (.slice (some ⟨bs, os, none⟩) scope.length csv) (.slice (some ⟨bt, ot, none⟩) s.length cst) scope s vals l w →
      Calls Tryz.prog 55 #[.pointer (some ⟨B, 0, none⟩), .int .i64 ((k : Int) + 1)] w fun e w' => e = .returned (.tuple #[]) ∧
        ∃ vals', TrialS N B V M c vv vc vr vl (.slice (some ⟨bs, os, none⟩) scope.length csv) (.slice (some ⟨bt, ot, none⟩) s.length cst) scope s vals' (l ++ metK c scope (reach s rest vals)) w' ∧ vals'.length = s.length ∧ (∀ x ∈ vals', -50 ≤ x ∧ x ≤ 50) ∧ Agree rest vals vals' ∧ Below N w w') := by
      intro vals1 l1 w1 a1 a2 a3 a4
      exact ih (k + 1) vals1 l1 w1 hdr2 (by omega) a1 a2 (by rw [hX]; exact a3) a4
    have g0 : ((k : Int) == (scope.length : Int)) = false := by simp; omega
    have hlt8 : k < 8 := by omega
    clear hT hvb hdr hvl hbud hrb hrw hrc hscell hstcell ih hX hdr2 hkv hv0 hv1 HXT
    go_enter Tryz.func55, Tryz.ntmps55
    go_wp2_with fail
    clear b6 b7 e0 e1
    go_loopw [40] (fun i wr => ∃ (jj : Nat) (vals' : List Int), jj ≤ row.length ∧ i = .int .i64 jj ∧ TrialS N B V M c vv vc vr vl (.slice (some ⟨bs, os, none⟩) scope.length csv) (.slice (some ⟨bt, ot, none⟩) s.length cst) scope s vals' (l ++ metK c scope (reachN s (j : Int) rest vals row jj)) wr ∧ Hid (vals'.length = s.length ∧ (∀ x ∈ vals', -50 ≤ x ∧ x ≤ 50) ∧ Agree ((j : Int) :: rest) vals vals') ∧ Below N w wr) (fun i _ => row.length - (intOf i).toNat)
    case atStart => exact ⟨0, vals, by omega, rfl, by simpa [reachN, metK] using HT.out, ⟨HVL.out, HVB.out, Agree.refl _ _⟩, Below.refl _ _⟩
    case round =>
      obtain ⟨jj, vals', hjj, rfl, hTr, hH, hbw⟩ := hrel
      have HTR : Hid (TrialS N B V M c vv vc vr vl (.slice (some ⟨bs, os, none⟩) scope.length csv) (.slice (some ⟨bt, ot, none⟩) s.length cst) scope s vals' (l ++ metK c scope (reachN s (j : Int) rest vals row jj)) wr) := hTr
      have HBW : Hid (Below N w wr) := hbw
      clear hTr hbw
      by_cases hlt : jj < row.length
      · obtain ⟨x, hx⟩ : ∃ x, row[jj]? = some x := ⟨row[jj], by simp [hlt]⟩
        have hxb := HRB.out x (List.mem_of_getElem? hx)
        obtain ⟨a', c', hva, _, hrc⟩ := HOR.out _ HBW.out
        obtain ⟨b2, o2, hax, hb2, e2⟩ := hrc jj _ hx
        have har : ar = some ⟨b2, o2, none⟩ := by injection hva with e1; exact e1.trans hax
        subst har
        have c8 := bk_cell HTR.out.2.1 8 _ rfl
        have HOW := HTR.out.2.2.2.1
        have hjv : j < vals'.length := by rw [hH.out.1]; exact hjs
        obtain ⟨y, hy⟩ : ∃ y, vals'[j]? = some y := ⟨vals'[j], by simp [hjv]⟩
        have cv : wr.cell? ⟨V, j, none⟩ = some (.int .i64 y) := by rw [HOW.cellAt j (by omega), List.getElem?_map, hy]; rfl
        have zv := HOW.frozenAt j
        have HSET := HTR.out.set j x
        have HST : Hid (TrialS N B V M c vv vc vr vl (.slice (some ⟨bs, os, none⟩) scope.length csv) (.slice (some ⟨bt, ot, none⟩) s.length cst) scope s (vals'.set j x) (l ++ metK c scope (reachN s (j : Int) rest vals row jj)) (wr.setCell ⟨V, j, none⟩ (.int .i64 x))) := HSET.1
        have HSB : Hid (Below N w (wr.setCell ⟨V, j, none⟩ (.int .i64 x))) := HBW.out.trans HSET.2
        have HV1 : Hid ((vals'.set j x).length = s.length) := by show _ = _; rw [List.length_set]; exact hH.out.1
        have HV2 : Hid (∀ y ∈ vals'.set j x, -50 ≤ y ∧ y ≤ 50) := bounds_set _ _ _ hH.out.2.1 hxb
        have hbud3 : (l ++ metK c scope (reachN s (j : Int) rest vals row jj)).length + X ≤ 1000000000 := by
          have h1 := HRN.out jj hjj
          have h2 : jj * X ≤ 5 * X := Nat.mul_le_mul_right _ (by omega)
          rw [List.length_append]
          omega
        have HRS : Hid (reach s rest (vals'.set j x) = reach s rest (vals.set ((j : Int)).toNat x)) := by
          have h := (hH.out.2.2).set x
          exact (reach_same s rest _ _ h).symm
        have HNX : Hid (metK c scope (reachN s (j : Int) rest vals row (jj + 1)) = metK c scope (reachN s (j : Int) rest vals row jj) ++ metK c scope (reach s rest (vals'.set j x))) := by
          show _ = _
          rw [reachN_next s _ rest vals row jj x hx, metK_append, HRS.out]
        have HAG : Hid (Agree ((j : Int) :: rest) vals (vals'.set j x)) := (hH.out.2.2).trans (Agree.of_set rest vals' (j : Int) x)
        clear hx hy hva hrc hax HOW HSET hH hxb
        go_wp2_with fail
        refine (HIH.out _ _ _ HV1.out HV2.out hbud3 HST.out).mono ?_
        rintro e w2 ⟨rfl, v2, hT2, hl2, hb2', hag2, hbN2⟩
        have HT2 : Hid (TrialS N B V M c vv vc vr vl (.slice (some ⟨bs, os, none⟩) scope.length csv) (.slice (some ⟨bt, ot, none⟩) s.length cst) scope s v2 (l ++ metK c scope (reachN s (j : Int) rest vals row (jj + 1))) w2) := by
          rw [HNX.out, ← List.append_assoc]; exact hT2
        have HH2 : Hid (v2.length = s.length ∧ (∀ x ∈ v2, -50 ≤ x ∧ x ≤ 50) ∧ Agree ((j : Int) :: rest) vals v2) := ⟨hl2, hb2', HAG.out.trans (Agree.cons _ hag2)⟩
        have HB2 : Hid (Below N w w2) := HSB.out.trans hbN2
        clear hT2 hl2 hb2' hag2 hbN2 hbud3
        go_wp2
        go_roundw
        case rel => exact ⟨jj + 1, v2, by omega, by go_num, HT2.out, HH2, HB2.out⟩
        case measure => simp [intOf]; omega
      · have hje : jj = row.length := by omega
        have HF : Hid (TrialS N B V M c vv vc vr vl (.slice (some ⟨bs, os, none⟩) scope.length csv) (.slice (some ⟨bt, ot, none⟩) s.length cst) scope s vals' (l ++ metK c scope (reach s ((j : Int) :: rest) vals)) wr) := by
          have h := HTR.out
          rw [hje, HEND.out] at h
          exact h
        clear hje
        go_wp2
        go_end0
        exact ⟨rfl, vals', HF.out, hH.out.1, hH.out.2.1, hH.out.2.2, HBW.out⟩
end Go.Proofs.YtijohkhpigjbkaeGreatDoor
/-
  WALKS: package store: Meet.
-/
namespace Go.Proofs.YtijohkhpigjbkaeGreatDoor
open Go.RowKit

def meetA (m : Mod) (s t : Sto) : Sto × Int := if checkL m [s, t] = 0 then (meetS s t, 0) else ([], checkL m [s, t])
theorem rows_short (m : Mod) (s : Sto) (hm : checkM m = 0) (hs : checkV m.vars s = 0) : s.length ≤ 6 ∧ ∀ r ∈ s, r.length ≤ 6 := by
  have h1 := (checkM_vars m hm).2.1
  have h2 := ((checkV_ok _ _).1 hs).1
  refine ⟨by omega, fun r hr => ?_⟩
  obtain ⟨i, hi⟩ := List.mem_iff_getElem?.1 hr
  exact row_short m s hm hs i r hi

end Go.Proofs.YtijohkhpigjbkaeGreatDoor
