/-
  PART 10 of what the proof leans on (RfU, RfV, RfX, TxtR, TxtS, TxtT, TxtU, TxtV, RfW, PfA).
-/
import Derived.Test.YtdjbejlbmaiocabGreatDoorPartI
/-
  PLAIN: the reference's reader and the program's: variables, constraints, the goal; the whole text.
-/
namespace Go.Proofs.YtdjbejlbmaiocabGreatDoor

section
variable {en : Int} {T : List Tok}
theorem needThen {γ δ : Type} {S : γ → δ → Prop} {g : RP → γ × RP} {Q : List Tok → PR δ} (s : ByteArray) (hs : (ByteArray.empty.toList == s.toList) = false) (hg : Same en T S g Q) : Same en T S (fun p => g (needR en T s p)) (fun l => (skipP en s l).bind fun _ l => Q l) :=
  (need_same en T s hs).bindS (g := fun _ p => g p) (Q := fun _ l => Q l) (fun _ => hg.still) (fun _ _ _ => hg)
end
def newNameR (en : Int) (T : List Tok) (p : RP) : ByteArray × RP := (txR en T p, if isNameB (txR en T p) then stepR p else wrongR 1 p)
theorem newName_still (en : Int) (T : List Tok) : Still (newNameR en T) := fun p hp => by
  unfold newNameR
  rw [tx_still en T p hp, namex_empty]
  exact wrong_still 1 p hp
theorem newName_same (en : Int) (T : List Tok) : Same en T Eq (newNameR en T) (newNameP en) := by
  refine ⟨newName_still en T, fun p hp hk => ?_⟩
  unfold newNameR newNameP
  rw [tx_head en T p hp, name_eq]
  refine pass_agree (y := fun t => t.text) p hp hk _ _ (fun hq => ⟨by show (if _ then _ else _) = _; rw [hq, if_pos rfl], head_in en T p.k (fun h0 => by rw [h0, namex_empty] at hq; cases hq), rfl⟩) (fun hq => by show (if _ then _ else _) = _; rw [hq, if_neg (by simp)])
def newVarR (en : Int) (T : List Tok) (p : RP) : MVar × RP :=
  let a := newNameR en T (needR en T varW p)
  let b := kR en T (needR en T colW a.2)
  let c := kR en T (needR en T dotsW b.2)
  (⟨a.1, b.1, c.1⟩, needR en T semiW c.2)
theorem newVar_same (en : Int) (T : List Tok) (hT : Solid T) : Same en T Eq (newVarR en T) (newVarP en) := by
  have hN := number_same en T hT
  have h7 : ∀ (n : ByteArray) (lo hi : Int), Same en T Eq (fun p => ((⟨n, lo, hi⟩ : MVar), needR en T semiW p)) (fun l => (skipP en semiW l).bind fun _ l => .ok (⟨n, lo, hi⟩ : MVar) l) := fun n lo hi => needThen semiW (by decide +kernel) (g := fun p => ((⟨n, lo, hi⟩ : MVar), p)) (Same.pure rfl)
  have h6 : ∀ (n : ByteArray) (lo : Int), Same en T Eq (fun p => ((⟨n, lo, (kR en T p).1⟩ : MVar), needR en T semiW (kR en T p).2)) (fun l => (numberP en l).bind fun hi l => (skipP en semiW l).bind fun _ l => .ok (⟨n, lo, hi⟩ : MVar) l) := fun n lo =>
    hN.bindS (g := fun hi p => ((⟨n, lo, hi⟩ : MVar), needR en T semiW p)) (Q := fun hi l => (skipP en semiW l).bind fun _ l => .ok (⟨n, lo, hi⟩ : MVar) l) (fun hi => (h7 n lo hi).still) (fun x y hxy => by rw [hxy]; exact h7 n lo y)
  have h5 := fun (n : ByteArray) (lo : Int) => needThen dotsW (by decide +kernel) (h6 n lo)
  have h4 : ∀ n : ByteArray, Same en T Eq (fun p => ((⟨n, (kR en T p).1, (kR en T (needR en T dotsW (kR en T p).2)).1⟩ : MVar), needR en T semiW (kR en T (needR en T dotsW (kR en T p).2)).2)) (fun l => (numberP en l).bind fun lo l => (skipP en dotsW l).bind fun _ l => (numberP en l).bind fun hi l => (skipP en semiW l).bind fun _ l => .ok (⟨n, lo, hi⟩ : MVar) l) := fun n =>
    hN.bindS (g := fun lo p => ((⟨n, lo, (kR en T (needR en T dotsW p)).1⟩ : MVar), needR en T semiW (kR en T (needR en T dotsW p)).2)) (Q := fun lo l => (skipP en dotsW l).bind fun _ l => (numberP en l).bind fun hi l => (skipP en semiW l).bind fun _ l => .ok (⟨n, lo, hi⟩ : MVar) l) (fun lo => (h5 n lo).still) (fun x y hxy => by rw [hxy]; exact h5 n y)
  have h3 := fun (n : ByteArray) => needThen colW (by decide +kernel) (h4 n)
  exact needThen varW (by decide +kernel) ((newName_same en T).bindS (g := fun n p => ((⟨n, (kR en T (needR en T colW p)).1, (kR en T (needR en T dotsW (kR en T (needR en T colW p)).2)).1⟩ : MVar), needR en T semiW (kR en T (needR en T dotsW (kR en T (needR en T colW p)).2)).2))
    (Q := fun n l => (skipP en colW l).bind fun _ l => (numberP en l).bind fun lo l => (skipP en dotsW l).bind fun _ l => (numberP en l).bind fun hi l => (skipP en semiW l).bind fun _ l => .ok (⟨n, lo, hi⟩ : MVar) l) (fun n => (h3 n).still) (fun x y hxy => by rw [hxy]; exact h3 y))
/-- Things one behind the other, each behind its word. -/
def rowR {α : Type} (en : Int) (T : List Tok) (wd : List UInt8) (f : RP → α × RP) : Nat → List α → RP → List α × RP
  | 0, acc, p => (acc, p)
  | n + 1, acc, p => if ((txR en T p).toList == wd) = true then rowR en T wd f n (acc ++ [(f p).1]) (f p).2 else (acc, p)
def rowP {α : Type} (en : Int) (wd : List UInt8) (P : List Tok → PR α) : Nat → List α → List Tok → PR (List α)
  | 0, _, _ => .bad 0 0
  | f + 1, acc, l => if ((headT en l).text.toList == wd) = true then (P l).bind fun v l => rowP en wd P f (acc ++ [v]) l else .ok acc l
theorem vars_row (en : Int) : ∀ (f : Nat) (acc : List MVar) (l : List Tok), varsP en f acc l = rowP en [118, 97, 114] (newVarP en) f acc l
  | 0, _, _ => rfl
  | f + 1, acc, l => by
    unfold varsP rowP
    simp only [vars_row en f]
theorem cons_row (en : Int) (nm : List ByteArray) : ∀ (f : Nat) (acc : List MCon) (l : List Tok), consP en nm f acc l = rowP en [99, 111, 110] (conP en nm) f acc l
  | 0, _, _ => rfl
  | f + 1, acc, l => by
    unfold consP rowP
    simp only [cons_row en nm f]
theorem row_stop {α : Type} (en : Int) (T : List Tok) (wd : List UInt8) (hw : (ByteArray.empty.toList == wd) = false) (f : RP → α × RP) (n : Nat) (acc : List α) (p : RP) (hp : p.er ≠ 0) : rowR en T wd f n acc p = (acc, p) := by
  cases n with
  | zero => rfl
  | succ n => unfold rowR; rw [tx_still en T p hp, if_neg (by rw [hw]; simp)]
/-- The same, if names differ; as many in any case. -/
def RDL {α : Type} (D : Prop) (xs ys : List α) : Prop := (D → xs = ys) ∧ xs.length = ys.length
theorem row_same {α : Type} {en : Int} {T : List Tok} {D : Prop} (wd : List UInt8) (hw : (ByteArray.empty.toList == wd) = false) {f : RP → α × RP} {P : List Tok → PR α} (hf : Same en T (RD D) f P) (hE : ∀ l x r, ((headT en l).text.toList == wd) = true → P l = .ok x r → r.length < l.length) :
    ∀ (n : Nat) (p : RP) (acc acc' : List α) (fu gu : Nat), p.er = 0 → p.k ≤ T.length → (T.drop p.k).length ≤ n → n + 1 ≤ fu → n + 1 ≤ gu → (D → acc = acc') ∧ acc.length = acc'.length →
      Agree en T (RDL D) (rowR en T wd f fu acc p) (rowP en wd P gu acc' (T.drop p.k)) := by
  intro n
  induction n with
  | zero =>
    intro p acc acc' fu gu hp hk hl hfu hgu ha
    obtain ⟨g, rfl⟩ : ∃ g, gu = g + 1 := ⟨gu - 1, by omega⟩
    obtain ⟨f0, rfl⟩ : ∃ f0, fu = f0 + 1 := ⟨fu - 1, by omega⟩
    have h0 : T.drop p.k = [] := List.eq_nil_of_length_eq_zero (by omega)
    unfold rowR rowP
    rw [tx_head en T p hp, h0]
    have e : ((headT en []).text.toList == wd) = false := hw
    rw [e, if_neg (by simp), if_neg (by simp)]
    exact ⟨hp, h0, hk, ha⟩
  | succ n ih =>
    intro p acc acc' fu gu hp hk hl hfu hgu ha
    obtain ⟨g, rfl⟩ : ∃ g, gu = g + 1 := ⟨gu - 1, by omega⟩
    obtain ⟨f0, rfl⟩ : ∃ f0, fu = f0 + 1 := ⟨fu - 1, by omega⟩
    unfold rowR rowP
    rw [tx_head en T p hp]
    cases hq : ((headT en (T.drop p.k)).text.toList == wd)
    · rw [if_neg (by simp), if_neg (by simp)]
      exact ⟨hp, rfl, hk, ha⟩
    · rw [if_pos rfl, if_pos rfl]
      have h2 := hf.same p hp hk
      cases hP : P (T.drop p.k) with
      | ok x l =>
        rw [hP] at h2
        obtain ⟨b1, b2, b3, b4⟩ := h2
        have hl2 := hE _ x l hq hP
        have := ih (f p).2 (acc ++ [(f p).1]) (acc' ++ [x]) f0 g b1 b3 (by rw [b2]; omega) (by omega) (by omega) ⟨fun hD => by rw [ha.1 hD, b4 hD], by simp [ha.2]⟩
        rw [b2] at this
        exact this
      | bad pl e =>
        rw [hP] at h2
        obtain ⟨b1, b2, b3, b4⟩ := h2
        rw [row_stop en T wd hw f _ _ _ (by rw [b1]; exact b2)]
        exact ⟨b1, b2, b3, b4⟩
def goalEndR (en : Int) (T : List Tok) (nm : List ByteArray) (g : Int) (p : RP) : (Int × Int) × RP :=
  if p.er = 0 ∧ g ≠ 0 then ((g, (vR en T nm p).1), needR en T semiW (vR en T nm p).2) else ((g, 0), needR en T semiW p)
def goalR (en : Int) (T : List Tok) (nm : List ByteArray) (p : RP) : (Int × Int) × RP :=
  goalEndR en T nm (wordR en T (needR en T solveW p) goalWL 0).1 (wordR en T (needR en T solveW p) goalWL 0).2
theorem goals_solid : ∀ s ∈ goalWL, (ByteArray.empty.toList == s.toList) = false := by
  intro s hs
  simp only [goalWL, List.mem_cons, List.not_mem_nil, or_false] at hs
  rcases hs with rfl | rfl | rfl <;> decide +kernel
theorem goal_same (en : Int) (T : List Tok) (hT : Solid T) (nm : List ByteArray) (hn : ∀ n ∈ nm, ∀ s : ByteArray, n.data.toList = s.data.toList → isNameB s = true) : Same en T (RD (Apart nm)) (goalR en T nm) (goalP en nm) := by
  have hst : ∀ g, Still (goalEndR en T nm g) := fun g p hp => by
    unfold goalEndR
    rw [if_neg (fun h => hp h.1)]
    exact need_still en T semiW p hp
  refine needThen solveW (by decide +kernel) (g := fun p => goalEndR en T nm (wordR en T p goalWL 0).1 (wordR en T p goalWL 0).2) ((word_same en T hT goalWL goals_solid).bind (g := goalEndR en T nm)
    (Q := fun g l => if g = 0 then (skipP en semiW l).bind fun _ l => .ok (g, 0) l else (nameP en nm l).bind fun v l => (skipP en semiW l).bind fun _ l => .ok (g, v) l) hst (fun x y hxy p hp hk => ?_))
  rw [hxy]
  unfold goalEndR
  by_cases h0 : y = 0
  · rw [if_neg (fun h => h.2 h0), if_pos h0]
    exact (needThen semiW (by decide +kernel) (g := fun p => ((y, (0 : Int)), p)) (Q := fun l => .ok (y, 0) l) (Same.pure (R := RD (Apart nm)) (fun _ => rfl))).same p hp hk
  · rw [if_pos ⟨hp, h0⟩, if_neg h0]
    have h1 : ∀ v v' : Int, RD (Apart nm) v v' → Same en T (RD (Apart nm)) (fun p => ((y, v), needR en T semiW p)) (fun l => (skipP en semiW l).bind fun _ l => .ok (y, v') l) := fun v v' hv =>
      needThen semiW (by decide +kernel) (g := fun p => ((y, v), p)) (Q := fun l => .ok (y, v') l) (Same.pure (R := RD (Apart nm)) (fun hD => by rw [hv hD]))
    exact ((name_same en T nm hn).bindS (S := RD (Apart nm)) (g := fun v p => ((y, v), needR en T semiW p)) (Q := fun v l => (skipP en semiW l).bind fun _ l => .ok (y, v) l) (fun v p hp => need_still en T semiW p hp) h1).same p hp hk
end Go.Proofs.YtdjbejlbmaiocabGreatDoor
/-
  PLAIN: the reference's reader and the program's come to the same of a whole text.
-/
namespace Go.Proofs.YtdjbejlbmaiocabGreatDoor

theorem reats_bind {α β : Type} {P : List Tok → PR α} {Q : α → List Tok → PR β} (hP : Eats P) (hQ : ∀ x, Eats (Q x)) : Eats (fun l => (P l).bind Q) := fun l x r h => by
  obtain ⟨a, q, h1, h2⟩ := PR.bind_ok h
  exact Nat.le_trans (hQ a q x r h2) (hP l a q h1)
theorem eats_pure {α : Type} (y : α) : Eats (fun l => .ok y l) := fun l x r h => by cases h; exact Nat.le_refl _
theorem eats_nn (en : Int) : Eats (newNameP en) := eats_pass en (fun l => nameB (headT en l).text) (fun t _ => t.text)
/-- What begins with its word takes it. -/
theorem skip_less {α : Type} (en : Int) (s : ByteArray) (hs : (ByteArray.empty.toList == s.toList) = false) (Q : List Tok → PR α) (hQ : Eats Q) (l : List Tok) (x : α) (r : List Tok) (h : ((skipP en s l).bind fun _ l => Q l) = .ok x r) : r.length < l.length := by
  obtain ⟨t, q, h1, h2⟩ := PR.bind_ok h
  have h3 := hQ q x r h2
  have h4 := pass_eats en l _ t q h1
  have h5 : l ≠ [] := by
    intro he
    subst he
    unfold skipP passP at h1
    rw [show ((headT en []).text.toList == s.toList) = false from hs, if_neg (by simp)] at h1
    cases h1
  cases l with
  | nil => exact absurd rfl h5
  | cons a l => rw [h4] at h3; simp at h3 ⊢; omega
theorem newVar_less (en : Int) (l : List Tok) (x : MVar) (r : List Tok) (h : newVarP en l = .ok x r) : r.length < l.length :=
  skip_less en varW (by decide +kernel) _ (reats_bind (eats_nn en) fun _ => reats_bind (eats_skip en _) fun _ => reats_bind (eats_number en) fun _ => reats_bind (eats_skip en _) fun _ => reats_bind (eats_number en) fun _ => reats_bind (eats_skip en _) fun _ => eats_pure _) l x r h
theorem reats_body (en : Int) (nm : List ByteArray) (k : Int) : Eats (bodyP en nm k) := by
  have hK := eats_number en
  have hV := eats_name en nm
  have hKs := eats_read en _ hK
  have hVs := eats_read en _ hV
  have hL := eats_lit en nm
  unfold bodyP
  by_cases h1 : k = 1 ∨ k = 2 ∨ k = 3
  · simp only [if_pos h1]; exact reats_bind hKs fun _ => reats_bind hVs fun _ => reats_bind hK fun _ => eats_pure _
  simp only [if_neg h1]
  by_cases h4 : k = 4
  · simp only [if_pos h4]; exact reats_bind hVs fun _ => eats_pure _
  simp only [if_neg h4]
  by_cases h5 : k = 5
  · simp only [if_pos h5]; exact reats_bind hKs fun _ => reats_bind hV fun _ => reats_bind hV fun _ => eats_pure _
  simp only [if_neg h5]
  by_cases h6 : k = 6
  · simp only [if_pos h6]; exact reats_bind hVs fun _ => reats_bind (eats_read en _ hKs) fun _ => eats_pure _
  simp only [if_neg h6]
  by_cases h7 : k = 7
  · simp only [if_pos h7]; exact reats_bind hV fun _ => reats_bind hV fun _ => reats_bind hV fun _ => eats_pure _
  simp only [if_neg h7]
  by_cases h8 : k = 8
  · simp only [if_pos h8]; exact reats_bind hV fun _ => reats_bind hVs fun _ => eats_pure _
  simp only [if_neg h8]
  by_cases h9 : k = 9
  · simp only [if_pos h9]; exact reats_bind (eats_read en _ hL) fun _ => eats_pure _
  simp only [if_neg h9]
  by_cases h10 : k = 10
  · simp only [if_pos h10]; exact reats_bind hV fun _ => reats_bind hL fun _ => eats_pure _
  simp only [if_neg h10]
  exact eats_pure _
theorem con_less (en : Int) (nm : List ByteArray) (l : List Tok) (x : MCon) (r : List Tok) (h : conP en nm l = .ok x r) : r.length < l.length :=
  skip_less en conW (by decide +kernel) _ (reats_bind (eats_oneOf en conWL) fun k => reats_bind (reats_body en nm k) fun _ => reats_bind (eats_skip en _) fun _ => eats_pure _) l x r h
def conStepR (en : Int) (T : List Tok) (nm : List ByteArray) (p : RP) : MCon × RP := ((conR en T nm (needR en T conW p)).1, needR en T semiW (conR en T nm (needR en T conW p)).2)
theorem conStep_same (en : Int) (T : List Tok) (hT : Solid T) (nm : List ByteArray) (hn : ∀ n ∈ nm, ∀ s : ByteArray, n.data.toList = s.data.toList → isNameB s = true) : Same en T (RD (Apart nm)) (conStepR en T nm) (conP en nm) := by
  have h1 : ∀ c c' : MCon, RD (Apart nm) c c' → Same en T (RD (Apart nm)) (fun p => (c, needR en T semiW p)) (fun l => (skipP en semiW l).bind fun _ l => .ok c' l) := fun c c' hc =>
    needThen semiW (by decide +kernel) (g := fun p => (c, p)) (Q := fun l => .ok c' l) (Same.pure hc)
  have h2 : Same en T (RD (Apart nm)) (fun p => ((conR en T nm p).1, needR en T semiW (conR en T nm p).2)) (fun l => ((oneOfP en conWL l).bind fun k l => bodyP en nm k l).bind fun c l => (skipP en semiW l).bind fun _ l => .ok c l) :=
    (con_same en T hT nm hn).bindS (S := RD (Apart nm)) (g := fun c p => (c, needR en T semiW p)) (Q := fun c l => (skipP en semiW l).bind fun _ l => .ok c l) (fun c p hp => need_still en T semiW p hp) h1
  have h3 := needThen conW (by decide +kernel) h2
  refine ⟨h3.still, fun p hp hk => ?_⟩
  have h4 := h3.same p hp hk
  unfold conP
  have e : ∀ l : List Tok, ((skipP en conW l).bind fun _ l => ((oneOfP en conWL l).bind fun k l => bodyP en nm k l).bind fun c l => (skipP en semiW l).bind fun _ l => .ok c l) = (skipP en conW l).bind fun _ l => (oneOfP en conWL l).bind fun k l => (bodyP en nm k l).bind fun c l => (skipP en semiW l).bind fun _ l => .ok c l := by
    intro l
    cases skipP en conW l with
    | bad x e => rfl
    | ok t r =>
      show ((oneOfP en conWL r).bind fun k l => bodyP en nm k l).bind _ = (oneOfP en conWL r).bind _
      cases oneOfP en conWL r <;> rfl
  rw [← e]
  exact h4
theorem bytes_ext (a b : ByteArray) (h : a.data.toList = b.data.toList) : a = b := by
  cases a with
  | mk x => cases b with
    | mk y =>
      have : x = y := Array.toList_inj.1 h
      rw [this]
theorem newVar_name (en : Int) (l : List Tok) (x : MVar) (r : List Tok) (h : newVarP en l = .ok x r) : isNameB x.name = true := by
  unfold newVarP at h
  obtain ⟨_, _, _, h⟩ := PR.bind_ok h
  obtain ⟨n, q, hn, h⟩ := PR.bind_ok h
  obtain ⟨_, _, _, h⟩ := PR.bind_ok h
  obtain ⟨_, _, _, h⟩ := PR.bind_ok h
  obtain ⟨_, _, _, h⟩ := PR.bind_ok h
  obtain ⟨_, _, _, h⟩ := PR.bind_ok h
  obtain ⟨_, _, _, h⟩ := PR.bind_ok h
  cases h
  unfold newNameP at hn
  obtain ⟨t, q2, h1, h2⟩ := PR.bind_ok hn
  unfold passP at h1
  split at h1
  · rename_i hb
    cases h1
    cases h2
    rw [name_eq] at hb
    exact hb
  · cases h1
theorem row_names (en : Int) : ∀ (f : Nat) (acc : List MVar) (l : List Tok) (xs : List MVar) (r : List Tok), (∀ v ∈ acc, isNameB v.name = true) → rowP en [118, 97, 114] (newVarP en) f acc l = .ok xs r → ∀ v ∈ xs, isNameB v.name = true
  | 0, _, _, _, _, _, h => by cases h
  | f + 1, acc, l, xs, r, ha, h => by
    unfold rowP at h
    split at h
    · obtain ⟨v, q, h1, h2⟩ := PR.bind_ok h
      refine row_names en f _ q xs r (fun u hu => ?_) h2
      rcases List.mem_append.1 hu with hu | hu
      · exact ha u hu
      · rw [List.mem_singleton.1 hu]; exact newVar_name en l v q h1
    · cases h; exact ha
def modelR (en : Int) (T : List Tok) (p : RP) : Mod × RP :=
  let v := rowR en T [118, 97, 114] (newVarR en T) (T.length + 2) [] p
  let c := rowR en T [99, 111, 110] (conStepR en T (v.1.map MVar.name)) (T.length + 2) [] v.2
  let g := goalR en T (v.1.map MVar.name) c.2
  (⟨v.1, c.1, g.1.1, g.1.2⟩, if g.2.k < T.length then wrongR 1 g.2 else g.2)
/-- The same, if names differ; the same variables, and as many constraints, in any case. -/
def RM (m m' : Mod) : Prop := m.vars = m'.vars ∧ m.cons.length = m'.cons.length ∧ (Apart (m'.vars.map MVar.name) → m = m')
theorem model_same (en : Int) (T : List Tok) (hT : Solid T) (p : RP) (hp : p.er = 0) (hk : p.k ≤ T.length) : Agree en T RM (modelR en T p) (modelP en (T.drop p.k)) := by
  unfold modelR modelP
  have hv := row_same (D := True) [118, 97, 114] (by decide +kernel) ((newVar_same en T hT).weak True) (fun l x r _ h => newVar_less en l x r h) (T.drop p.k).length p [] [] (T.length + 2) ((T.drop p.k).length + 1) hp hk (Nat.le_refl _) (by rw [List.length_drop]; omega) (Nat.le_refl _) ⟨fun _ => rfl, rfl⟩
  rw [← vars_row] at hv
  generalize hV : rowR en T [118, 97, 114] (newVarR en T) (T.length + 2) [] p = v at hv
  obtain ⟨vs, p1⟩ := v
  dsimp only
  cases hq : varsP en ((T.drop p.k).length + 1) [] (T.drop p.k) with
  | bad pl e =>
    rw [hq] at hv
    obtain ⟨b1, b2, b3, b4⟩ := hv
    dsimp only at b1 b3 b4
    have hne : p1.er ≠ 0 := by rw [b1]; exact b2
    rw [row_stop en T [99, 111, 110] (by decide +kernel) _ _ _ p1 hne]
    have hg : goalR en T (vs.map MVar.name) p1 = ((((goalR en T (vs.map MVar.name) p1).1)), p1) := by
      refine Prod.ext rfl ?_
      show (goalR en T (vs.map MVar.name) p1).2 = p1
      unfold goalR goalEndR
      rw [need_still en T solveW p1 hne, word_still en T p1 hne, if_neg (fun h => hne h.1)]
      exact need_still en T semiW p1 hne
    have hp2 : (if p1.k < T.length then wrongR 1 p1 else p1) = p1 := by split; exact wrong_still 1 p1 hne; rfl
    show _ ∧ _ ∧ _ ∧ _
    dsimp only
    rw [hg]
    dsimp only
    rw [hp2]
    exact ⟨b1, b2, b3, b4⟩
  | ok xs l =>
    rw [hq] at hv
    obtain ⟨a1, a2, a3, a4, _⟩ := hv
    dsimp only at a1 a2 a3 a4
    obtain rfl : vs = xs := a4 trivial
    have hnm : ∀ n ∈ vs.map MVar.name, ∀ s : ByteArray, n.data.toList = s.data.toList → isNameB s = true := by
      intro n hn s hs
      obtain ⟨u, hu, rfl⟩ := List.mem_map.1 hn
      rw [← bytes_ext _ _ hs]
      rw [vars_row] at hq
      exact row_names en _ [] _ vs l (fun _ h => by cases h) hq u hu
    show Agree en T RM _ ((consP en (vs.map MVar.name) (l.length + 1) [] l).bind _)
    have hc := row_same [99, 111, 110] (by decide +kernel) (conStep_same en T hT (vs.map MVar.name) hnm) (fun l x r _ h => con_less en _ l x r h) l.length p1 [] [] (T.length + 2) (l.length + 1) a1 a3 (by rw [a2]; exact Nat.le_refl _) (by rw [← a2, List.length_drop]; omega) (Nat.le_refl _) ⟨fun _ => rfl, rfl⟩
    rw [← cons_row, a2] at hc
    generalize hC : rowR en T [99, 111, 110] (conStepR en T (vs.map MVar.name)) (T.length + 2) [] p1 = c at hc
    obtain ⟨cs, p2⟩ := c
    dsimp only
    cases hq2 : consP en (vs.map MVar.name) (l.length + 1) [] l with
    | bad pl e =>
      rw [hq2] at hc
      obtain ⟨b1, b2, b3, b4⟩ := hc
      dsimp only at b1 b3 b4
      have hne : p2.er ≠ 0 := by rw [b1]; exact b2
      have hg : goalR en T (vs.map MVar.name) p2 = ((((goalR en T (vs.map MVar.name) p2).1)), p2) := by
        refine Prod.ext rfl ?_
        show (goalR en T (vs.map MVar.name) p2).2 = p2
        unfold goalR goalEndR
        rw [need_still en T solveW p2 hne, word_still en T p2 hne, if_neg (fun h => hne h.1)]
        exact need_still en T semiW p2 hne
      have hp2 : (if p2.k < T.length then wrongR 1 p2 else p2) = p2 := by split; exact wrong_still 1 p2 hne; rfl
      show _ ∧ _ ∧ _ ∧ _
      dsimp only
      rw [hg]
      dsimp only
      rw [hp2]
      exact ⟨b1, b2, b3, b4⟩
    | ok ys l2 =>
      rw [hq2] at hc
      obtain ⟨c1, c2, c3, c4, c5⟩ := hc
      dsimp only at c1 c2 c3 c4 c5
      show Agree en T RM _ ((goalP en (vs.map MVar.name) l2).bind _)
      have hg := (goal_same en T hT (vs.map MVar.name) hnm).same p2 c1 c3
      rw [c2] at hg
      generalize hG : goalR en T (vs.map MVar.name) p2 = g at hg
      obtain ⟨gv, p3⟩ := g
      dsimp only
      cases hq3 : goalP en (vs.map MVar.name) l2 with
      | bad pl e =>
        rw [hq3] at hg
        obtain ⟨b1, b2, b3, b4⟩ := hg
        dsimp only at b1 b3 b4
        have hne : p3.er ≠ 0 := by rw [b1]; exact b2
        have hp2 : (if p3.k < T.length then wrongR 1 p3 else p3) = p3 := by split; exact wrong_still 1 p3 hne; rfl
        show _ ∧ _ ∧ _ ∧ _
        dsimp only
        rw [hp2]
        exact ⟨b1, b2, b3, b4⟩
      | ok gw l3 =>
        rw [hq3] at hg
        obtain ⟨d1, d2, d3, d4⟩ := hg
        dsimp only at d1 d2 d3 d4
        show Agree en T RM _ (if 0 < l3.length then _ else _)
        by_cases hl : 0 < l3.length
        · have hlt : p3.k < T.length := by rw [← d2, List.length_drop] at hl; omega
          rw [if_pos hl, if_pos hlt]
          have e : wrongR 1 p3 = ⟨p3.k, 1⟩ := by unfold wrongR; rw [if_pos d1]
          rw [e]
          exact ⟨rfl, by omega, by rw [← d2], d3⟩
        · have hlt : ¬ p3.k < T.length := by rw [← d2, List.length_drop] at hl; omega
          rw [if_neg hl, if_neg hlt]
          exact ⟨d1, d2, d3, rfl, c5, fun hA => by rw [c4 hA, d4 hA]⟩
end Go.Proofs.YtdjbejlbmaiocabGreatDoor
/-
  PLAIN: where two names are alike, both readers' models are refused alike; else they are one.
-/
namespace Go.Proofs.YtdjbejlbmaiocabGreatDoor

theorem apart_of (vs : List MVar) (h : varsE vs = 0) : Apart (vs.map MVar.name) := by
  unfold Apart
  rw [List.pairwise_map, List.pairwise_iff_getElem]
  intro i j hi hj hij he
  have h1 := firstE_all _ h (varE (vs.take j) vs[j]) (List.mem_map.2 ⟨j, List.mem_range.2 hj, by rw [List.getD_eq_getElem?_getD, List.getElem?_eq_getElem hj]; rfl⟩)
  unfold varE at h1
  have hany : (vs.take j).any (fun u => u.name.toList == vs[j].name.toList) = true := by
    refine List.any_eq_true.2 ⟨vs[i], ?_, (beq_data _ _).2 he⟩
    exact List.mem_take_iff_getElem.2 ⟨i, by omega, rfl⟩
  rw [hany] at h1
  split at h1
  · rw [if_pos rfl] at h1; cases h1
  · cases h1
theorem check_agree (m m' : Mod) (h : RM m m') : checkM m = checkM m' ∧ (checkM m' = 0 → m = m') := by
  obtain ⟨h1, h2, h3⟩ := h
  by_cases hv : varsE m'.vars = 0
  · have he := h3 (apart_of _ hv)
    exact ⟨by rw [he], fun _ => he⟩
  · have e : checkM m = checkM m' := by
      unfold checkM
      rw [h1, h2, if_neg hv, if_neg hv]
    refine ⟨e, fun h0 => absurd (checkM_vars m' h0).2.2.2.1 hv⟩
end Go.Proofs.YtdjbejlbmaiocabGreatDoor
/-
  WALK: package text: the reader: model.
-/
namespace Go.Proofs.YtdjbejlbmaiocabGreatDoor
open Go.RowKit

theorem bytes_empty {s : ByteArray} (h : s.data.toList = []) : s = ByteArray.empty := by
  cases s with
  | mk d =>
    have : d = #[] := by simpa using h
    rw [this]; rfl
theorem newvar_ne {en : Int} {l r : List Tok} {x : MVar} (h : newVarP en l = .ok x r) : x.name.data.toList ≠ [] := by
  unfold newVarP at h
  obtain ⟨_, q1, _, h2⟩ := PR.bind_ok h
  obtain ⟨n, q2, h3, h4⟩ := PR.bind_ok h2
  obtain ⟨_, _, _, h5⟩ := PR.bind_ok h4
  obtain ⟨_, _, _, h6⟩ := PR.bind_ok h5
  obtain ⟨_, _, _, h7⟩ := PR.bind_ok h6
  obtain ⟨_, _, _, h8⟩ := PR.bind_ok h7
  obtain ⟨_, _, _, h9⟩ := PR.bind_ok h8
  cases h9
  unfold newNameP at h3
  obtain ⟨t, q, h10, h11⟩ := PR.bind_ok h3
  cases h11
  unfold passP at h10
  split at h10
  · rename_i hb
    cases h10
    intro he
    have he2 : (headT en q1).text.data.toList = [] := he
    rw [bytes_empty he2, name_empty] at hb
    cases hb
  · cases h10
theorem eats_newName (en : Int) : Eats (newNameP en) := eats_pass en (fun l => nameB (headT en l).text) (fun t _ => t.text)
theorem newvar_len {en : Int} {l r : List Tok} {x : MVar} (h : newVarP en l = .ok x r) : r.length + 1 ≤ l.length := by
  unfold newVarP at h
  obtain ⟨_, q1, e1, h2⟩ := PR.bind_ok h
  obtain ⟨n, q2, e2, h4⟩ := PR.bind_ok h2
  obtain ⟨_, q3, e3, h5⟩ := PR.bind_ok h4
  obtain ⟨_, q4, e4, h6⟩ := PR.bind_ok h5
  obtain ⟨_, q5, e5, h7⟩ := PR.bind_ok h6
  obtain ⟨_, q6, e6, h8⟩ := PR.bind_ok h7
  obtain ⟨_, q7, e7, h9⟩ := PR.bind_ok h8
  cases h9
  have f1 := skip_len solid_var e1
  have f2 := eats_newName en _ _ _ e2
  have f3 := skip_len solid_col e3
  have f4 := eats_number en _ _ _ e4
  have f5 := skip_len solid_dots e5
  have f6 := eats_number en _ _ _ e6
  have f7 := skip_len solid_semi e7
  omega
theorem eats_bind {α β : Type} {p : List Tok → PR α} {f : α → List Tok → PR β} (hp : Eats p) (hf : ∀ a, Eats (f a)) : Eats fun l => (p l).bind f := by
  intro l x r h
  obtain ⟨a, q, h1, h2⟩ := PR.bind_ok h
  have e1 := hp l a q h1
  have e2 := hf a q x r h2
  omega
theorem eats_ok {α : Type} (a : α) : Eats fun l => .ok a l := by
  intro l x r h
  cases h
  exact Nat.le_refl _
theorem eats_body (en : Int) (names : List ByteArray) (k : Int) : Eats (bodyP en names k) := by
  have en1 := eats_read en _ (eats_number en)
  have en2 := eats_read en _ (eats_name en names)
  have en3 := eats_number en
  have en4 := eats_name en names
  unfold bodyP
  intro l
  split
  · exact eats_bind en1 (fun cs => eats_bind en2 fun vs => eats_bind en3 fun n => eats_ok _) l
  split
  · exact eats_bind en2 (fun vs => eats_ok _) l
  split
  · exact eats_bind en1 (fun cs => eats_bind en4 fun a => eats_bind en4 fun b => eats_ok _) l
  split
  · exact eats_bind en2 (fun cs => eats_bind (eats_read en _ en1) fun a => eats_ok _) l
  split
  · exact eats_bind en4 (fun cs => eats_bind en4 fun a => eats_bind en4 fun b => eats_ok _) l
  split
  · exact eats_bind en4 (fun cs => eats_bind en2 fun a => eats_ok _) l
  split
  · exact eats_bind (eats_read en _ (eats_lit en names)) (fun cs => eats_ok _) l
  split
  · exact eats_bind en4 (fun cs => eats_bind (eats_lit en names) fun a => eats_ok _) l
  · exact eats_ok _ l
theorem con_len {en : Int} {names : List ByteArray} {l r : List Tok} {x : MCon} (h : conP en names l = .ok x r) : r.length + 1 ≤ l.length := by
  unfold conP at h
  obtain ⟨_, q1, e1, h2⟩ := PR.bind_ok h
  obtain ⟨n, q2, e2, h4⟩ := PR.bind_ok h2
  obtain ⟨_, q3, e3, h5⟩ := PR.bind_ok h4
  obtain ⟨_, q4, e4, h6⟩ := PR.bind_ok h5
  cases h6
  have f1 := skip_len solid_con e1
  have f2 := eats_oneOf en _ _ _ _ e2
  have f3 := eats_body en names _ _ _ _ e3
  have f4 := skip_len solid_semi e4
  omega
theorem Tryz.infoVar5 : (Tryz.prog.info? 47).map (fun i => (i.zero, i.size, i.bytes)) = some (some (.agg #[.string ⟨#[]⟩, .int .i64 0, .int .i64 0]), 3, 32) := by kernel_rfl
theorem Tryz.underVars5 : Tryz.prog.underlying 22 = some (.slice 47) := by kernel_rfl
theorem Tryz.infoCon5 : (Tryz.prog.info? 54).map (fun i => (i.zero, i.size, i.bytes)) = some (some (.agg #[.int .i64 0, .slice none 0 0, .slice none 0 0, .int .i64 0, .slice none 0 0, .slice none 0 0]), 6, 112) := by kernel_rfl
theorem Tryz.underCons5 : Tryz.prog.underlying 23 = some (.slice 54) := by kernel_rfl
theorem one_laidV (w : World) (z : MVar) : ∀ (j : Nat) (u : Value), (varC z)[j]? = some u → (w.alloc (.cells #[.string z.name, .int .i64 z.lo, .int .i64 z.hi] 47)).cell? ((⟨w.heap.size, 0, none⟩ : Addr).add j) = some u := by
  intro j u hj
  match j, hj with
  | 0, hj => simp [varC] at hj; subst hj; simp [Addr.add]
  | 1, hj => simp [varC] at hj; subst hj; simp [Addr.add]
  | 2, hj => simp [varC] at hj; subst hj; simp [Addr.add]
theorem one_laidC (w : World) (vv vc vr vl : Value) (z : MCon) : ∀ (j : Nat) (u : Value), (conC vv vc vr vl z)[j]? = some u → (w.alloc (.cells #[.int .i64 z.kind, vv, vc, .int .i64 z.n, vr, vl] 54)).cell? ((⟨w.heap.size, 0, none⟩ : Addr).add j) = some u := by
  intro j u hj
  match j, hj with
  | 0, hj => simp [conC] at hj; subst hj; simp [Addr.add]
  | 1, hj => simp [conC] at hj; subst hj; simp [Addr.add]
  | 2, hj => simp [conC] at hj; subst hj; simp [Addr.add]
  | 3, hj => simp [conC] at hj; subst hj; simp [Addr.add]
  | 4, hj => simp [conC] at hj; subst hj; simp [Addr.add]
  | 5, hj => simp [conC] at hj; subst hj; simp [Addr.add]
end Go.Proofs.YtdjbejlbmaiocabGreatDoor
/-
  WALK: package text: the reader: model.
-/
namespace Go.Proofs.YtdjbejlbmaiocabGreatDoor
open Go.RowKit

def restP (en : Int) (vs : List MVar) (l : List Tok) : PR Mod :=
  (consP en (vs.map MVar.name) (l.length + 1) [] l).bind fun cs l => (goalP en (vs.map MVar.name) l).bind fun g l => if 0 < l.length then .bad (headT en l).place 1 else .ok ⟨vs, cs, g.1, g.2⟩ l
def endP (en : Int) (vs : List MVar) (cs : List MCon) (l : List Tok) : PR Mod :=
  (goalP en (vs.map MVar.name) l).bind fun g l => if 0 < l.length then .bad (headT en l).place 1 else .ok ⟨vs, cs, g.1, g.2⟩ l
def GM (B : Nat) (m : Mod) (v : Value) (w' : World) : Prop := ∃ vs cs, v = modV vs cs m ∧ w'.ownsRow B 47 3 vs m.vars.length (m.vars.flatMap varC) ∧ LCr B w' cs m.cons ∧ (∀ x ∈ m.vars, x.name.size ≤ maxLen) ∧ m.vars.length ≤ 4000 ∧ m.cons.length ≤ 4000
theorem one_cells3 (x : MVar) : ∀ u ∈ varC x, u.oneCell' = true := by
  intro u hu
  simp only [varC, List.mem_cons, List.not_mem_nil, or_false] at hu
  rcases hu with rfl | rfl | rfl <;> rfl
theorem one_cells6 {B : Nat} {w : World} {vv vc vr vl : Value} {c : MCon} (h : ConR B w vv vc vr vl c) : ∀ u ∈ conC vv vc vr vl c, u.oneCell' = true := by
  obtain ⟨a1, c1, rfl⟩ := own_form h.1
  obtain ⟨a2, c2, rfl⟩ := own_form h.2.1
  obtain ⟨a3, c3, rfl⟩ := h.2.2.1.form
  obtain ⟨a4, c4, rfl⟩ := own_form h.2.2.2
  intro u hu
  simp only [conC, List.mem_cons, List.not_mem_nil, or_false] at hu
  rcases hu with rfl | rfl | rfl | rfl | rfl | rfl <;> rfl

theorem ModSt.endd {N R M : Nat} {en : Int} {names : List ByteArray} {w0 w : World} {q : List Tok} {vs cs : Value} {vars : List MVar} {cons : List MCon} (h : ModSt N R M en w0 w q names vs cs vars cons) (u2 u3 e0 e1 e2 e3 : Value) (W : World)
    (hW : W = (((((w.setCell ⟨w0.heap.size + 1, 2, none⟩ u2).setCell ⟨w0.heap.size + 1, 3, none⟩ u3).setCell ⟨w0.heap.size, 0, none⟩ e0).setCell ⟨w0.heap.size, 1, none⟩ e1).setCell ⟨w0.heap.size, 2, none⟩ e2).setCell ⟨w0.heap.size, 3, none⟩ e3) :
    W.ownsRow w0.heap.size 47 3 vs vars.length (vars.flatMap varC) ∧ LCr w0.heap.size W cs cons ∧ Rd N R M en W q ∧ Fr (XRM R M) w0 W := by
  subst hW
  have hRw := h.Rw
  have hNw := h.Nw
  have hne : w0.heap.size ≠ R := by omega
  have hne1 : w0.heap.size + 1 ≠ R := by omega
  have hN1 : N ≤ w0.heap.size + 1 := by omega
  have m0 : ∃ cs, w.heap[w0.heap.size + 1]? = some (.cells cs 25) := ⟨_, h.mod⟩
  have m1 := blk_put m0 2 u2
  have k0 : ∃ cs, ((w.setCell ⟨w0.heap.size + 1, 2, none⟩ u2).setCell ⟨w0.heap.size + 1, 3, none⟩ u3).heap[w0.heap.size]? = some (.cells cs 25) :=
    ⟨_, (Below.heap_setCell _ _ _ _ (show w0.heap.size ≠ w0.heap.size + 1 by omega)).trans ((Below.heap_setCell _ _ _ _ (show w0.heap.size ≠ w0.heap.size + 1 by omega)).trans h.res)⟩
  have k1 := blk_put k0 0 e0
  have k2 := blk_put k1 1 e1
  have k3 := blk_put k2 2 e2
  refine ⟨?_, ?_, ?_, ?_⟩
  · exact own_set (own_set (own_set (own_set (own_set (own_set h.vown m0.choose_spec (by decide) 2 u2) m1.choose_spec (by decide) 3 u3) k0.choose_spec (by decide) 0 e0) k1.choose_spec (by decide) 1 e1) k2.choose_spec (by decide) 2 e2) k3.choose_spec (by decide) 3 e3
  · exact (((((h.cown.set m0.choose_spec 2 u2).set m1.choose_spec 3 u3).set k0.choose_spec 0 e0).set k1.choose_spec 1 e1).set k2.choose_spec 2 e2).set k3.choose_spec 3 e3
  · exact (((((h.rd.set (p := ⟨w0.heap.size + 1, 2, none⟩) hne1 hN1 _).set (p := ⟨w0.heap.size + 1, 3, none⟩) hne1 hN1 _).set (p := ⟨w0.heap.size, 0, none⟩) hne h.Nw _).set (p := ⟨w0.heap.size, 1, none⟩) hne h.Nw _).set (p := ⟨w0.heap.size, 2, none⟩) hne h.Nw _).set (p := ⟨w0.heap.size, 3, none⟩) hne h.Nw _
  · exact (((((h.fr.setNew (p := ⟨w0.heap.size + 1, 2, none⟩) (Nat.le_succ _) _).setNew (p := ⟨w0.heap.size + 1, 3, none⟩) (Nat.le_succ _) _).setNew (p := ⟨w0.heap.size, 0, none⟩) (Nat.le_refl _) _).setNew (p := ⟨w0.heap.size, 1, none⟩) (Nat.le_refl _) _).setNew (p := ⟨w0.heap.size, 2, none⟩) (Nat.le_refl _) _).setNew (p := ⟨w0.heap.size, 3, none⟩) (Nat.le_refl _) _
set_option maxHeartbeats 6400000 in
set_option maxRecDepth 100000 in
theorem rmodel_any (N R M : Nat) (en : Int) (w : World) (l : List Tok) (h : Rd N R M en w l) (hn : NmS w M []) (hNM : N ≤ M) :
    Calls Tryz.prog 41 #[.pointer (some ⟨R, 0, none⟩)] w (PostR (modelP en l) (GM w.heap.size) N R M en (XRM R M) w) := by
  have HB : Hid (Rd N R M en w l) := h
  have HN : Hid (NmS w M []) := hn
  have hMR : M ≠ R := h.1.2.2
  have hRw : R < w.heap.size := by obtain ⟨_, _, hR, _⟩ := h; exact (Array.getElem?_eq_some_iff.1 hR).1
  have hMw : M < w.heap.size := hn.lt
  have hNw : N ≤ w.heap.size := h.1.2.1
  have hll := h.len
  obtain ⟨iV, hiV, hzV0, hzV1, hzV2⟩ := info_parts Tryz.infoVar5
  obtain ⟨iC, hiC, hzC0, hzC1, hzC2⟩ := info_parts Tryz.infoCon5
  obtain ⟨P, hP⟩ : ∃ P, modelP en l = P := ⟨_, rfl⟩
  have HP0 : Hid (P = (varsP en (l.length + 1) [] l).bind (restP en)) := by show _ = _; rw [← hP]; rfl
  rw [hP]
  clear h hP hn
  go_enter Tryz.func41, Tryz.ntmps41
  go_wp2_with fail
  obtain ⟨W0, hW0⟩ : ∃ W0, W0 = (w.alloc (.cells #[.slice none 0 0, .slice none 0 0, .int .i64 0, .int .i64 0] 25)).alloc (.cells #[.slice none 0 0, .slice none 0 0, .int .i64 0, .int .i64 0] 25) := ⟨_, rfl⟩
  have hbW : Below w.heap.size w W0 := by rw [hW0]; exact (below_alloc _ _).trans ((below_alloc _ _).mono (by simp))
  have HS0 : Hid (ModSt N R M en w W0 l [] (.slice none 0 0) (.slice none 0 0) [] []) := by
    refine ⟨HB.out.below hbW, Fr.below hbW, HN.out.old (hbW.block M hMw), ?_, ?_, hRw, hNw, hMw, hNM, World.ownsRow_nil _ _ _ _, LCr.none _ _⟩
    · rw [hW0]; exact ((below_alloc _ _).block _ (by simp)).trans (by show (w.heap.push _)[w.heap.size]? = _; simp)
    · have hsz : w.heap.size + 1 = (w.alloc (.cells #[.slice none 0 0, .slice none 0 0, .int .i64 0, .int .i64 0] 25)).heap.size := by simp
      rw [hW0, hsz]; exact heap_alloc_new _ _
  rw [← hW0]
  clear hbW hW0
  go_loopw [] (fun wr => ∃ (f : Nat) (vars : List MVar) (q : List Tok) (vs : Value), Hid (P = (varsP en f vars q).bind (restP en)) ∧ Hid (ModSt N R M en w wr q (vars.map MVar.name) vs (.slice none 0 0) vars []) ∧ Hid (∀ n ∈ vars.map MVar.name, n.data.toList ≠ []) ∧ Hid (∀ x ∈ vars, x.name.size ≤ maxLen) ∧ q.length + 1 ≤ f ∧ vars.length + q.length ≤ 4000) (fun wr => leftT R wr)
  case atStart => exact ⟨_, [], l, _, HP0, HS0, fun n hn => by (simp at hn), fun x hx => by (simp at hx), by omega, by simp; omega⟩
  case round =>
    obtain ⟨f, vars, q, vs, HPV, HSV, HNE, HSZ, hf, hlen⟩ := hrel
    obtain ⟨g, rfl⟩ : ∃ g, f = g + 1 := ⟨f - 1, by omega⟩
    have hf2 := tokF2 (headT en q)
    obtain ⟨av, cv, hv⟩ := own_form HSV.out.vown
    subst hv
    have HVW : Hid ((⟨#[118, 97, 114]⟩ : ByteArray).toList = [118, 97, 114]) := by show _ = _; simp [go_sem]
    cases hc : ((headT en q).text.toList == [118, 97, 114])
    · have HPE : Hid (P = (consP en (vars.map MVar.name) (q.length + 1) [] q).bind (endP en vars)) := by show _ = _; rw [HPV.out, varsP, hc]; rfl
      obtain ⟨names, hnames⟩ : ∃ names, vars.map MVar.name = names := ⟨_, rfl⟩
      have HNM : Hid (vars.map MVar.name = names) := hnames
      rw [hnames] at HPE HSV HNE
      clear HPV hnames
      go_wp2_with fail
      refine (ahead_any N R M en _ q HSV.out.rd).mono ?_
      rintro e w6 ⟨rfl, hb6⟩
      have HS6 : Hid (ModSt N R M en w w6 q names (.slice av vars.length cv) (.slice none 0 0) vars []) := HSV.out.below hb6
      have hvl : vars.length ≤ 4000 := by omega
      unfold tokA
      clear hb6 HSV
      go_wp2_with fail
      clear hc hf2
      go_loopw [] (fun wr => ∃ (f : Nat) (cons : List MCon) (q : List Tok) (cs : Value), Hid (P = (consP en names f cons q).bind (endP en vars)) ∧ Hid (ModSt N R M en w wr q names (.slice av vars.length cv) cs vars cons) ∧ q.length + 1 ≤ f ∧ cons.length + q.length ≤ 4000) (fun wr => leftT R wr)
      case atStart => exact ⟨_, [], q, _, HPE, HS6, by omega, by simp; omega⟩
      case round =>
        clear HPE HS6 hf hlen
        obtain ⟨f, cons, q, cs, HPV, HSV, hf, hlen⟩ := hrel
        obtain ⟨g, rfl⟩ : ∃ g, f = g + 1 := ⟨f - 1, by omega⟩
        have hf2 := tokF2 (headT en q)
        obtain ⟨ac, cc, hv⟩ := HSV.out.cown.form
        subst hv
        have HVX : Hid ((⟨#[99, 111, 110]⟩ : ByteArray).toList = [99, 111, 110]) := by show _ = _; simp [go_sem]
        cases hc : ((headT en q).text.toList == [99, 111, 110])
        · have HPE : Hid (P = endP en vars cons q) := by show _ = _; rw [HPV.out, consP, hc]; rfl
          clear HPV
          go_wp2_with fail
          refine (ahead_any N R M en _ q HSV.out.rd).mono ?_
          rintro e w7 ⟨rfl, hb7⟩
          have HS7 : Hid (ModSt N R M en w w7 q names (.slice av vars.length cv) (.slice ac cons.length cc) vars cons) := HSV.out.below hb7
          unfold tokA
          clear hb7 HSV
          go_wp2_with fail
          clear hc hf2
          refine (rgoal_any N R M en names w7 q HS7.out.rd HS7.out.nm HNE.out).mono ?_
          intro e w8 hp
          cases hs : goalP en names q with
          | bad x er =>
            rw [hs] at hp
            obtain ⟨rfl, hfr⟩ := hp
            have hfr2 := HS7.out.fr.trans hfr.toRM
            have HPB : Hid (P = .bad x er) := by show _ = _; rw [HPE.out]; unfold endP; rw [HNM.out, hs]; rfl
            clear hs hfr
            go_wp2
            exact ⟨rfl, by rw [HPB.out]; exact ⟨rfl, hfr2⟩⟩
          | ok gg q5 =>
            rw [hs] at hp
            obtain ⟨v, rfl, rfl, hrd, hfr⟩ := hp
            have HS8 : Hid (ModSt N R M en w w8 q5 names (.slice av vars.length cv) (.slice ac cons.length cc) vars cons) := HS7.out.callR hfr hrd
            have HPN : Hid (P = if 0 < q5.length then .bad (headT en q5).place 1 else .ok ⟨vars, cons, gg.1, gg.2⟩ q5) := by show _ = _; rw [HPE.out]; unfold endP; rw [HNM.out, hs]; rfl
            have r2 := blk9 HS8.out.mod 2 _ rfl
            have r3 := blk9 HS8.out.mod 3 _ rfl
            have r0 := blk9 HS8.out.mod 0 _ rfl
            have r1 := blk9 HS8.out.mod 1 _ rfl
            have z2 := frz9 HS8.out.mod 2
            have z3 := frz9 HS8.out.mod 3
            have b0 := blk9 HS8.out.res 0 _ rfl
            have b1 := blk9 HS8.out.res 1 _ rfl
            have b2 := blk9 HS8.out.res 2 _ rfl
            have b3 := blk9 HS8.out.res 3 _ rfl
            have y0 := frz9 HS8.out.res 0
            have y1 := frz9 HS8.out.res 1
            have y2 := frz9 HS8.out.res 2
            have y3 := frz9 HS8.out.res 3
            obtain ⟨_, vr, hR, ar, cr, rfl, ⟨hcr1, hcr2⟩, _, _⟩ := HS8.out.rd
            have cR : w8.cell? ⟨R, 0, none⟩ = some (.slice ar q5.length cr) := by rw [Lib.cell_of_heap hR]; rfl
            have hRne : R ≠ w.heap.size + 1 := by omega
            obtain ⟨g1, hg1⟩ : ∃ g1, gg.1 = g1 := ⟨_, rfl⟩
            obtain ⟨g2, hg2⟩ : ∃ g2, gg.2 = g2 := ⟨_, rfl⟩
            rw [hg1, hg2] at HPN ⊢
            have HSE : Hid (Rd N R M en ((w8.setCell ⟨w.heap.size + 1, 2, none⟩ (.int .i64 g1)).setCell ⟨w.heap.size + 1, 3, none⟩ (.int .i64 g2)) q5 ∧ Fr (XRM R M) w ((w8.setCell ⟨w.heap.size + 1, 2, none⟩ (.int .i64 g1)).setCell ⟨w.heap.size + 1, 3, none⟩ (.int .i64 g2))) :=
              ⟨(HS8.out.rd.set (p := ⟨w.heap.size + 1, 2, none⟩) (Ne.symm hRne) (show N ≤ w.heap.size + 1 by omega) _).set (p := ⟨w.heap.size + 1, 3, none⟩) (Ne.symm hRne) (show N ≤ w.heap.size + 1 by omega) _, (HS8.out.fr.setNew (p := ⟨w.heap.size + 1, 2, none⟩) (show w.heap.size ≤ w.heap.size + 1 by omega) _).setNew (p := ⟨w.heap.size + 1, 3, none⟩) (show w.heap.size ≤ w.heap.size + 1 by omega) _⟩
            clear hs hfr hrd HPE HS7 hR hg1 hg2 hcr1 hcr2
            cases q5 with
            | nil =>
              have HPX : Hid (P = .ok ⟨vars, cons, g1, g2⟩ []) := by show _ = _; rw [HPN.out]; rfl
              go_wp2
              refine bodyPost_ret (by simp [results, Tryz.results41, go_sem, *]; try rfl) rfl ?_
              rw [HPX.out]
              obtain ⟨e1, e2, e3, e4⟩ := HS8.out.endd _ _ _ _ _ _ _ rfl
              exact ⟨_, rfl, ⟨_, _, rfl, e1, e2, HSZ.out, hvl, by show cons.length ≤ 4000; omega⟩, e3, e4⟩
            | cons t5 r5 =>
              have HPX : Hid (P = .bad t5.place 1) := by show _ = _; rw [HPN.out]; rfl
              have hl5 : ((t5 :: r5).length : Int) = (r5.length : Int) + 1 := by simp
              go_wp2_with fail
              refine (giveup_any N R M en 1 _ (t5 :: r5) HSE.out.1).mono ?_
              rintro e w9 ⟨rfl, hb9⟩
              have hfr2 := HSE.out.2.trans (Fr.below hb9)
              go_wp2
              exact ⟨rfl, by rw [HPX.out]; exact ⟨rfl, hfr2⟩⟩
        · have HPE : Hid (P = ((conP en names q).bind fun c l => consP en names g (cons ++ [c]) l).bind (endP en vars)) := by show _ = _; rw [HPV.out, consP, hc, if_pos rfl]
          clear HPV
          go_wp2_with fail
          refine (ahead_any N R M en _ q HSV.out.rd).mono ?_
          rintro e w7 ⟨rfl, hb7⟩
          have HS7 : Hid (ModSt N R M en w w7 q names (.slice av vars.length cv) (.slice ac cons.length cc) vars cons) := HSV.out.below hb7
          have HM7 : Hid (leftT R wr = q.length) := leftT_rd HSV.out.rd
          unfold tokA
          clear hb7 HSV
          go_wp2_with fail
          have c1 : w7.cell? ⟨w.heap.size + 1, 1, none⟩ = some (.slice ac cons.length cc) := blk9 HS7.out.mod 1 _ rfl
          have HSD : Hid (ModSt N R M en w w7.drew q names (.slice av vars.length cv) (.slice ac cons.length cc) vars cons) := HS7.out.below (Below.refl _ _).drew
          have hnv := rcon_any N R M en names w7.drew q HSD.out.rd HSD.out.nm HNE.out
          cases hs : conP en names q with
          | bad x er =>
            have HPB : Hid (P = .bad x er) := by show _ = _; rw [HPE.out, hs]; rfl
            rw [hs] at hnv
            clear hs hc hf2
            refine wp_region_held_drew (S := fun w' => w' = w7.drew) (by kernel_rfl) rfl (fun hHeld => ?_)
            refine wpAnyH_take (i := 0) (v := ?v0b) rfl (by kernel_rfl) (by kernel_rfl) (by kernel_rfl) (fun _ _ _ h => h) (Or.inl ⟨by rfl, ?y0b⟩) rfl ?r0b
            case y0b => intro wq hSw; subst hSw; go_simp; with_reducible rfl
            refine wpAnyH_take (i := 1) (v := ?v1b) rfl (by kernel_rfl) (by kernel_rfl) (by kernel_rfl) (fun _ _ _ h => h) (Or.inl ⟨by rfl, ?y1b⟩) rfl ?r1b
            case y1b => intro wq hSw; subst hSw; go_simp; with_reducible rfl
            refine wpAnyH_take (i := 2) (v := ?v2b) rfl (by kernel_rfl) (by kernel_rfl) (by kernel_rfl) (fun _ _ _ h => h) (Or.inl ⟨by rfl, ?y2b⟩) rfl ?r2b
            case y2b => intro wq hSw; subst hSw; go_simp; with_reducible rfl
            refine wpAnyH_ready (rs := [3]) (by kernel_rfl) (by simp) ?_
            refine AllReadyH.cons rfl (fun K hK => ?_) AllReadyH.nil
            clear hK
            go_simp
            refine hnv.mono ?_
            rintro e w8 ⟨rfl, hfr⟩
            have hfr2 := HSD.out.fr.trans hfr.toRM
            clear hnv hfr
            go_wp2
            exact ⟨rfl, by rw [HPB.out]; exact ⟨rfl, hfr2⟩⟩
          | ok x q2 =>
            have hq2 : q2.length + 1 ≤ q.length := con_len hs
            have HPN : Hid (P = (consP en names g (cons ++ [x]) q2).bind (endP en vars)) := by show _ = _; rw [HPE.out, hs]; rfl
            rw [hs] at hnv
            clear hs hc hf2 HPE
            go_region_law
              (first
                | (rw [if_pos (by rfl)]; refine wp_append_own _ _ _ 23 rfl w.heap.size 54 iC _ 6 112 Tryz.underCons5 hiC hzC0 hzC1 hzC2 rfl (by decide) _ _ _ rfl (hw8.alloc _) ⟨w8.heap.size, 0, none⟩ 1 1 (conC _ _ _ _ x) rfl rfl (one_laidC w8 _ _ _ _ x) (one_cells6 hcr) ?_ ?_ ?_ ?_; (unfold maxLen; omega); omega; (have := HT.base; simp; omega); intro v9 w9 hown9 hg9 _; have HU := HT.pushCon hcr hw8 hcells8 hg9 hown9; have d0 := blk9 HU.1 1 _ rfl; have z0 := frz9 HU.1 1; obtain ⟨a9, b9, hv9⟩ := own_form hown9; subst hv9)
                | (rw [if_pos (by rfl)]; go_simp; go_at_call 72; refine hnv.mono ?_; rintro e w8 ⟨v8, rfl, ⟨vv, vc, vr, vl, rfl, hcr0⟩, hrd8, hfr8⟩; have HT := HSD.out.callR hfr8 hrd8; have hcr := hcr0.mono HSD.out.base; obtain ⟨x1, y1, hx1⟩ := own_form hcr.1; obtain ⟨x2, y2, hx2⟩ := own_form hcr.2.1; obtain ⟨x3, y3, hx3⟩ := hcr.2.2.1.form; obtain ⟨x4, y4, hx4⟩ := own_form hcr.2.2.2; subst hx1 hx2 hx3 hx4; obtain ⟨cells8, hw8, hcells8⟩ := HT.cown; have c8 := blk9 HT.mod 1 _ rfl; have hl8 : w.heap.size + 1 < w8.heap.size := (Array.getElem?_eq_some_iff.1 HT.mod).1; unfold conV; dsimp only))
            all_goals
              have HS9 : Hid (ModSt N R M en w (w9.setCell ⟨w.heap.size + 1, 1, none⟩ (.slice a9 (cons.length + 1) b9)) q2 names (.slice av vars.length cv) (.slice a9 (cons.length + 1) b9) vars (cons ++ [x])) := HU.2
              have HM9 : Hid (leftT R (w9.setCell ⟨w.heap.size + 1, 1, none⟩ (.slice a9 (cons.length + 1) b9)) < leftT R wr) := by show _ < _; rw [leftT_rd HS9.out.rd, HM7.out]; omega
              clear HT HU HSD hnv hg9 hown9 d0 z0 c1 c8 hrd8 hfr8 HS7 hcr hcr0 hw8 hcells8
              go_wp2
              go_roundw
              case rel => exact ⟨g, cons ++ [x], q2, _, HPN, HS9, by omega, by simp; omega⟩
              case measure => exact HM9.out
    · have HPE : Hid (P = ((newVarP en q).bind fun v l => varsP en g (vars ++ [v]) l).bind (restP en)) := by show _ = _; rw [HPV.out, varsP, hc, if_pos rfl]
      clear HPV
      go_wp2_with fail
      refine (ahead_any N R M en _ q HSV.out.rd).mono ?_
      rintro e w6 ⟨rfl, hb6⟩
      have HS6 : Hid (ModSt N R M en w w6 q (vars.map MVar.name) (.slice av vars.length cv) (.slice none 0 0) vars []) := HSV.out.below hb6
      have HM6 : Hid (leftT R wr = q.length) := leftT_rd HSV.out.rd
      unfold tokA
      clear hb6 HSV
      go_wp2_with fail
      have c0 : w6.cell? ⟨w.heap.size + 1, 0, none⟩ = some (.slice av vars.length cv) := blk9 HS6.out.mod 0 _ rfl
      have HSD : Hid (ModSt N R M en w w6.drew q (vars.map MVar.name) (.slice av vars.length cv) (.slice none 0 0) vars []) := HS6.out.below (Below.refl _ _).drew
      have hnv := newvar_any N R M en (vars.map MVar.name) w6.drew q HSD.out.rd HSD.out.nm (by simp; omega) hNM
      rw [List.length_map] at hnv
      cases hs : newVarP en q with
      | bad x er =>
        have HPB : Hid (P = .bad x er) := by show _ = _; rw [HPE.out, hs]; rfl
        rw [hs] at hnv
        clear hs hc hf2
        refine wp_region_held_drew (S := fun w' => w' = w6.drew) (by kernel_rfl) rfl (fun hHeld => ?_)
        refine wpAnyH_take (i := 0) (v := ?v0) rfl (by kernel_rfl) (by kernel_rfl) (by kernel_rfl) (fun _ _ _ h => h) (Or.inl ⟨by rfl, ?y0⟩) rfl ?r0
        case y0 => intro wq hSw; subst hSw; go_simp; with_reducible rfl
        refine wpAnyH_take (i := 1) (v := ?v1) rfl (by kernel_rfl) (by kernel_rfl) (by kernel_rfl) (fun _ _ _ h => h) (Or.inl ⟨by rfl, ?y1⟩) rfl ?r1
        case y1 => intro wq hSw; subst hSw; go_simp; with_reducible rfl
        refine wpAnyH_take (i := 2) (v := ?v2) rfl (by kernel_rfl) (by kernel_rfl) (by kernel_rfl) (fun _ _ _ h => h) (Or.inl ⟨by rfl, ?y2⟩) rfl ?r2
        case y2 => intro wq hSw; subst hSw; go_simp; with_reducible rfl
        refine wpAnyH_take (i := 3) (v := ?v3) rfl (by kernel_rfl) (by kernel_rfl) (by kernel_rfl) (fun _ _ _ h => h) (Or.inl ⟨by rfl, ?y3⟩) rfl ?r3
        case y3 => intro wq hSw; subst hSw; go_simp; with_reducible rfl
        refine wpAnyH_take (i := 4) (v := ?v4) rfl (by kernel_rfl) (by kernel_rfl) (by kernel_rfl) (fun _ _ _ h => h) (Or.inl ⟨by rfl, ?y4⟩) rfl ?r4
        case y4 => intro wq hSw; subst hSw; go_simp; with_reducible rfl
        refine wpAnyH_take (i := 5) (v := ?v5) rfl (by kernel_rfl) (by kernel_rfl) (by kernel_rfl) (fun _ _ _ h => h) (Or.inl ⟨by rfl, ?y5⟩) rfl ?r5
        case y5 => intro wq hSw; subst hSw; go_simp; with_reducible rfl
        refine wpAnyH_ready (rs := [6]) (by kernel_rfl) (by simp) ?_
        refine AllReadyH.cons rfl (fun K hK => ?_) AllReadyH.nil
        clear hK
        go_simp
        refine hnv.mono ?_
        rintro e w7 ⟨rfl, hfr⟩
        have hfr2 := HSD.out.fr.trans hfr
        clear hnv hfr
        go_wp2
        exact ⟨rfl, by rw [HPB.out]; exact ⟨rfl, hfr2⟩⟩
      | ok x q2 =>
        have HNX : Hid (∀ n ∈ (vars ++ [x]).map MVar.name, n.data.toList ≠ []) := by
          intro n hn
          rw [List.map_append, List.mem_append] at hn
          rcases hn with hn | hn
          · exact HNE.out n hn
          · simp at hn; subst hn; exact newvar_ne hs
        have hq2 : q2.length + 1 ≤ q.length := newvar_len hs
        have HPN : Hid (P = (varsP en g (vars ++ [x]) q2).bind (restP en)) := by show _ = _; rw [HPE.out, hs]; rfl
        rw [hs] at hnv
        clear hs hc hf2 HPE
        go_region_law
          (first
            | (rw [if_pos (by rfl)]; refine wp_append_own _ _ _ 22 rfl w.heap.size 47 iV _ 3 32 Tryz.underVars5 hiV hzV0 hzV1 hzV2 rfl (by decide) _ _ _ rfl (HT.vown.alloc _) ⟨w7.heap.size, 0, none⟩ 1 1 (varC x) rfl rfl (one_laidV w7 x) (one_cells3 x) ?_ ?_ ?_ ?_; (unfold maxLen; omega); omega; (have := HT.base; simp; omega); intro v8 w8 hown8 hg8 _; have HU := HT.pushVar x hg8 hown8; have d0 := blk9 HU.1 0 _ rfl; have z0 := frz9 HU.1 0; obtain ⟨a8, b8, hv8⟩ := own_form hown8; subst hv8)
            | (rw [if_pos (by rfl)]; go_simp; go_at_call 71; refine hnv.mono ?_; rintro e w7 ⟨v7, rfl, ⟨rfl, hsz7, hnm7⟩, hrd7, hfr7⟩; have HT := HSD.out.call hfr7 hrd7 hnm7; have c7 := blk9 HT.mod 0 _ rfl; have hl7 : w.heap.size + 1 < w7.heap.size := (Array.getElem?_eq_some_iff.1 HT.mod).1; dsimp only))
        all_goals
          have HS9 : Hid (ModSt N R M en w (w8.setCell ⟨w.heap.size + 1, 0, none⟩ (.slice a8 (vars.length + 1) b8)) q2 ((vars ++ [x]).map MVar.name) (.slice a8 (vars.length + 1) b8) (.slice none 0 0) (vars ++ [x]) []) := by
            have := HU.2
            rw [List.map_append]
            exact this
          have HSX : Hid (∀ y ∈ vars ++ [x], y.name.size ≤ maxLen) := by
            intro y hy
            rw [List.mem_append] at hy
            rcases hy with hy | hy
            · exact HSZ.out y hy
            · simp at hy; subst hy; exact hsz7
          have HM9 : Hid (leftT R (w8.setCell ⟨w.heap.size + 1, 0, none⟩ (.slice a8 (vars.length + 1) b8)) < leftT R wr) := by show _ < _; rw [leftT_rd HS9.out.rd, HM6.out]; omega
          clear HT HU HSD hnv hg8 hown8 d0 z0 c0 c7 hrd7 hfr7 hnm7 hsz7 HS6
          go_wp2
          go_roundw
          case rel => exact ⟨g, vars ++ [x], q2, _, HPN, HS9, HNX, HSX, by omega, by simp; omega⟩
          case measure => exact HM9.out
end Go.Proofs.YtdjbejlbmaiocabGreatDoor
/-
  WALKS: package text: read's deferred closure; read.
-/
namespace Go.Proofs.YtdjbejlbmaiocabGreatDoor
open Go.RowKit

theorem slots_eq (b : Nat) (v : Value) : (#[.pointer (some ⟨b, 0, none⟩), .pointer (some ⟨b + 1, 0, none⟩), .pointer (some ⟨b + 2, 0, none⟩)] : Array Value) ++ ((Array.replicate 19 undef).setIfInBounds 3 v).setIfInBounds 0 v = #[.pointer (some ⟨b, 0, none⟩), .pointer (some ⟨b + 1, 0, none⟩), .pointer (some ⟨b + 2, 0, none⟩), v, undef, undef, v, undef, undef, undef, undef, undef, undef, undef, undef, undef, undef, undef, undef, undef, undef, undef] := by kernel_rfl
theorem tassert9 (x er : Int) (w : World) : Sem.run Tryz.prog (Instr.typeAssert (.iface 83 (.agg #[.int .i64 x, .int .i64 er])) 20 83 true) w = .ok (.tuple #[.agg #[.int .i64 x, .int .i64 er], .bool true]) w := by kernel_rfl
set_option maxHeartbeats 1600000 in
set_option maxRecDepth 100000 in
theorem catch_idle (b : Nat) (w : World) :
    CallsD Tryz.prog 40 #[.pointer (some ⟨b, 0, none⟩), .pointer (some ⟨b + 1, 0, none⟩), .pointer (some ⟨b + 2, 0, none⟩)] .returning w fun e u' w' => e = .returned (.tuple #[]) ∧ u' = .returning ∧ w' = w := by
  refine callsD_of_wpS Tryz.func40 rfl fun c₀ cs hu => ?_
  apply wpS_seq
  apply wpS_region
  simp [wpOpsS, go_sem, recoverD, hu, Tryz.ntmps40, Exit.thenS]
  rw [slots_eq]
  refine wpS_of_wp ?_
  go_wp2
  cases c₀
  simp_all [bodyPostS, results, Tryz.results40]
def Three (b : Nat) (x er : Int) (w0 w : World) : Prop :=
  w.heap[b]? = some (.cells #[.slice none 0 0, .slice none 0 0, .int .i64 0, .int .i64 0] 25) ∧ w.heap[b + 1]? = some (.cells #[.int .i64 x] 3) ∧ w.heap[b + 2]? = some (.cells #[.int .i64 er] 26) ∧ Fr (fun k => k = b ∨ k = b + 1 ∨ k = b + 2) w0 w
theorem Three.zero {b : Nat} {x er : Int} {w0 w : World} (h : Three b x er w0 w) (i : Nat) (u : Value) (hcs : (#[.slice none 0 0, .slice none 0 0, .int .i64 0, .int .i64 0] : Array Value).setIfInBounds i u = #[.slice none 0 0, .slice none 0 0, .int .i64 0, .int .i64 0]) : Three b x er w0 (w.setCell ⟨b, i, none⟩ u) := by
  obtain ⟨h0, h1, h2, h3⟩ := h
  refine ⟨?_, ?_, ?_, h3.setX (p := ⟨b, i, none⟩) (Or.inl rfl) u⟩
  · rw [heap_setCell_same w b i _ _ u h0, hcs]
  · exact (Below.heap_setCell _ _ _ _ (show b + 1 ≠ b by omega)).trans h1
  · exact (Below.heap_setCell _ _ _ _ (show b + 2 ≠ b by omega)).trans h2
theorem Three.one {b : Nat} {x er y : Int} {w0 w : World} (h : Three b x er w0 w) : Three b y er w0 (w.setCell ⟨b + 1, 0, none⟩ (.int .i64 y)) := by
  obtain ⟨h0, h1, h2, h3⟩ := h
  refine ⟨?_, ?_, ?_, h3.setX (p := ⟨b + 1, 0, none⟩) (Or.inr (Or.inl rfl)) _⟩
  · exact (Below.heap_setCell _ _ _ _ (show b ≠ b + 1 by omega)).trans h0
  · rw [heap_setCell_same w (b + 1) 0 _ _ _ h1]; rfl
  · exact (Below.heap_setCell _ _ _ _ (show b + 2 ≠ b + 1 by omega)).trans h2
theorem Three.two {b : Nat} {x er y : Int} {w0 w : World} (h : Three b x er w0 w) : Three b x y w0 (w.setCell ⟨b + 2, 0, none⟩ (.int .i64 y)) := by
  obtain ⟨h0, h1, h2, h3⟩ := h
  refine ⟨?_, ?_, ?_, h3.setX (p := ⟨b + 2, 0, none⟩) (Or.inr (Or.inr rfl)) _⟩
  · exact (Below.heap_setCell _ _ _ _ (show b ≠ b + 2 by omega)).trans h0
  · exact (Below.heap_setCell _ _ _ _ (show b + 1 ≠ b + 2 by omega)).trans h1
  · rw [heap_setCell_same w (b + 2) 0 _ _ _ h2]; rfl
theorem Three.below {b : Nat} {x er : Int} {w0 w w' : World} (h : Three b x er w0 w) (hb : Below w.heap.size w w') : Three b x er w0 w' :=
  ⟨(hb.block _ (Array.getElem?_eq_some_iff.1 h.1).1).trans h.1, (hb.block _ (Array.getElem?_eq_some_iff.1 h.2.1).1).trans h.2.1, (hb.block _ (Array.getElem?_eq_some_iff.1 h.2.2.1).1).trans h.2.2.1, h.2.2.2.trans (Fr.below hb)⟩
set_option maxHeartbeats 1600000 in
set_option maxRecDepth 100000 in
theorem catch_bad (b : Nat) (x er : Int) (w : World) (hT : Three b 0 0 w w) :
    CallsD Tryz.prog 40 #[.pointer (some ⟨b, 0, none⟩), .pointer (some ⟨b + 1, 0, none⟩), .pointer (some ⟨b + 2, 0, none⟩)] (.panicking [{ v := .iface 83 (.agg #[.int .i64 x, .int .i64 er]), recovered := false }]) w fun e u' w' => e = .returned (.tuple #[]) ∧ u' = .panicking [{ v := .iface 83 (.agg #[.int .i64 x, .int .i64 er]), recovered := true }] ∧
      Three b x er w w' := by
  have HT : Hid (Three b 0 0 w w) := hT
  obtain ⟨h0, h1, h2, _⟩ := hT
  have r0 := blk9 h0 0 _ rfl
  have r1 := blk9 h0 1 _ rfl
  have r2 := blk9 h0 2 _ rfl
  have r3 := blk9 h0 3 _ rfl
  have r4 := blk9 h1 0 _ rfl
  have r5 := blk9 h2 0 _ rfl
  have z0 := frz9 h0 0
  have z1 := frz9 h0 1
  have z2 := frz9 h0 2
  have z3 := frz9 h0 3
  have z4 := frz9 h1 0
  have z5 := frz9 h2 0
  have hl0 : b < w.heap.size := (Array.getElem?_eq_some_iff.1 h0).1
  have hl1 : b + 1 < w.heap.size := (Array.getElem?_eq_some_iff.1 h1).1
  have hl2 : b + 2 < w.heap.size := (Array.getElem?_eq_some_iff.1 h2).1
  clear h0 h1 h2
  refine callsD_of_wpS Tryz.func40 rfl fun c₀ cs hu => ?_
  apply wpS_seq
  apply wpS_region
  simp [wpOpsS, go_sem, recoverD, hu, Tryz.ntmps40, Exit.thenS]
  rw [slots_eq]
  refine wpS_of_wp ?_
  have hta := tassert9 x er
  go_wp2_with fail
  go_region
  all_goals
    refine ⟨rfl, _, rfl, _, results_none rfl _ _ _, rfl, rfl, ?_⟩
    refine Three.below ?_ (Below.refl _ _).drew
    refine Three.below ?_ (below_alloc _ _)
    exact (((((HT.out.zero 0 _ rfl).zero 1 _ rfl).zero 2 _ rfl).zero 3 _ rfl).one (y := x)).two (y := er)
end Go.Proofs.YtdjbejlbmaiocabGreatDoor
/-
  From rows of one's own to arguments; WALK: package text: read.
-/
namespace Go.Proofs.YtdjbejlbmaiocabGreatDoor
open Go.RowKit Go.Maps

theorem flat_get9 {α : Type} (f : α → List Value) (s : Nat) (hf : ∀ x, (f x).length = s) : ∀ (l : List α) (i k : Nat) (x : α), l[i]? = some x → k < s → (l.flatMap f)[i * s + k]? = (f x)[k]?
  | [], i, k, x, h, _ => by simp at h
  | y :: l, 0, k, x, h, hk => by
    simp at h
    subst h
    rw [List.flatMap_cons, Nat.zero_mul, Nat.zero_add, List.getElem?_append_left (by rw [hf]; exact hk)]
  | y :: l, i + 1, k, x, h, hk => by
    have h2 : l[i]? = some x := by simpa using h
    rw [List.flatMap_cons, List.getElem?_append_right (by rw [hf, Nat.add_mul]; omega), hf, show (i + 1) * s + k - s = i * s + k by rw [Nat.add_mul]; omega]
    exact flat_get9 f s hf l i k x h2 hk
theorem row_open {w : World} {B : Nat} {e : TypeId} {size n : Nat} {v : Value} {xs : List Value} (h : w.ownsRow B e size v n xs) :
    ∃ a c, v = .slice a n c ∧ (n ≤ c ∧ c ≤ maxLen) ∧ ∀ i, i < n → ∃ g, a = some ⟨g, 0, none⟩ ∧ g < w.heap.size ∧ ∀ j, j < n * size → w.cell? ⟨g, j, none⟩ = xs[j]? := by
  have h0 := h
  rcases h.2 with ⟨rfl, rfl⟩ | ⟨g, cap, cur, rfl, _, hg, hc, hm, _⟩
  · exact ⟨none, 0, rfl, ⟨Nat.le_refl _, Nat.zero_le _⟩, fun i hi => absurd hi (Nat.not_lt_zero _)⟩
  · exact ⟨_, _, rfl, ⟨hc, hm⟩, fun i hi => ⟨g, rfl, (Array.getElem?_eq_some_iff.1 hg).1, fun j hj => h0.cellAt j hj⟩⟩
theorem iarg_own {w : World} {B : Nat} {v : Value} {l : List Int} (h : w.ownsRow B 3 1 v l.length (l.map (Value.int .i64))) : IArg w v l := by
  obtain ⟨a, c, hv, hm, hr⟩ := row_open h
  refine ⟨a, c, hv, hm, fun i z hz => ?_⟩
  have hi : i < l.length := (List.getElem?_eq_some_iff.1 hz).1
  obtain ⟨g, ha, hg, hc⟩ := hr i hi
  exact ⟨g, 0, ha, hg, by rw [Nat.zero_add, hc i (by omega), List.getElem?_map, hz]; rfl⟩
theorem rarg_own {w : World} {B base : Nat} {v : Value} {l : List (List Int)} (h : LSr B base w v l) : RArg w v l := by
  obtain ⟨cells, h1, h2⟩ := h
  obtain ⟨a, c, hv, hm, hr⟩ := row_open h1
  refine ⟨a, c, hv, hm, fun i z hz => ?_⟩
  have hi : i < l.length := (List.getElem?_eq_some_iff.1 hz).1
  obtain ⟨g, ha, hg, hc⟩ := hr i hi
  obtain ⟨x, hx, ho⟩ := h2 i z hz
  exact ⟨g, 0, x, ha, hg, by rw [Nat.zero_add, hc i (by omega), hx], iarg_own ho⟩
theorem larg_own {w : World} {B : Nat} {v : Value} {l : List MLit} (h : w.ownsRow B 76 3 v l.length (l.flatMap litC)) : LArg w v l := by
  obtain ⟨a, c, hv, hm, hr⟩ := row_open h
  refine ⟨a, c, hv, hm, fun i z hz => ?_⟩
  have hi : i < l.length := (List.getElem?_eq_some_iff.1 hz).1
  obtain ⟨g, ha, hg, hc⟩ := hr i hi
  have hf := flat_get9 litC 3 (fun _ => rfl) l i
  exact ⟨g, 0, ha, hg, by rw [Nat.zero_add, hc _ (by omega)]; exact hf 0 z hz (by omega), by rw [Nat.zero_add, hc _ (by omega)]; exact hf 1 z hz (by omega), by rw [Nat.zero_add, hc _ (by omega)]; exact hf 2 z hz (by omega)⟩
theorem varg_own {w : World} {B : Nat} {v : Value} {l : List MVar} (h : w.ownsRow B 47 3 v l.length (l.flatMap varC)) (hs : ∀ x ∈ l, x.name.size ≤ maxLen) : VArg w v l := by
  obtain ⟨a, c, hv, hm, hr⟩ := row_open h
  refine ⟨a, c, hv, hm, fun i z hz => ⟨hs z (List.mem_of_getElem? hz), ?_⟩⟩
  have hi : i < l.length := (List.getElem?_eq_some_iff.1 hz).1
  obtain ⟨g, ha, hg, hc⟩ := hr i hi
  have hf := flat_get9 varC 3 (fun _ => rfl) l i
  exact ⟨g, 0, ha, hg, by rw [Nat.zero_add, hc _ (by omega)]; exact hf 0 z hz (by omega), by rw [Nat.zero_add, hc _ (by omega)]; exact hf 1 z hz (by omega), by rw [Nat.zero_add, hc _ (by omega)]; exact hf 2 z hz (by omega)⟩
theorem karg_own {w : World} {B : Nat} {vv vc vr vl : Value} {c : MCon} (h : ConR B w vv vc vr vl c) : KArg w vv vc vr vl c := ⟨iarg_own h.1, iarg_own h.2.1, rarg_own h.2.2.1, larg_own h.2.2.2⟩
theorem carg_own {w : World} {B : Nat} {v : Value} {l : List MCon} (h : LCr B w v l) : CArg w v l := by
  obtain ⟨cells, h1, h2⟩ := h
  obtain ⟨a, c, hv, hm, hr⟩ := row_open h1
  refine ⟨a, c, hv, hm, fun i z hz => ?_⟩
  have hi : i < l.length := (List.getElem?_eq_some_iff.1 hz).1
  obtain ⟨g, ha, hg, hc⟩ := hr i hi
  obtain ⟨vv, vc, vr, vl, hcl, ho⟩ := h2 i z hz
  refine ⟨g, 0, vv, vc, vr, vl, ha, hg, ?_, ?_, ?_, ?_, ?_, ?_, karg_own ho⟩
  · rw [Nat.zero_add, hc _ (by omega)]; exact hcl 0 (by omega)
  · rw [Nat.zero_add, hc _ (by omega)]; exact hcl 1 (by omega)
  · rw [Nat.zero_add, hc _ (by omega)]; exact hcl 2 (by omega)
  · rw [Nat.zero_add, hc _ (by omega)]; exact hcl 3 (by omega)
  · rw [Nat.zero_add, hc _ (by omega)]; exact hcl 4 (by omega)
  · rw [Nat.zero_add, hc _ (by omega)]; exact hcl 5 (by omega)

/-- A model whose lists were made above a block. -/
def ModR (B : Nat) (w : World) (vs cs : Value) (m : Mod) : Prop := w.ownsRow B 47 3 vs m.vars.length (m.vars.flatMap varC) ∧ LCr B w cs m.cons ∧ ∀ x ∈ m.vars, x.name.size ≤ maxLen
theorem ModR.marg {B : Nat} {w : World} {vs cs : Value} {m : Mod} (h : ModR B w vs cs m) : MArg w vs cs m := ⟨varg_own h.1 h.2.2, carg_own h.2.1⟩
theorem ModR.fr {X : Nat → Prop} {B : Nat} {w w' : World} {vs cs : Value} {m : Mod} (h : ModR B w vs cs m) (hf : Fr X w w') (hX : ∀ k, X k → k < B) : ModR B w' vs cs m := ⟨own_fr h.1 hf hX, h.2.1.fr hf hX, h.2.2⟩
theorem ModR.below {B : Nat} {w w' : World} {vs cs : Value} {m : Mod} (h : ModR B w vs cs m) (hb : Below w.heap.size w w') : ModR B w' vs cs m := h.fr (X := fun _ => False) (Fr.below hb) (fun _ hk => hk.elim)
theorem ModR.mono {B B' : Nat} {w : World} {vs cs : Value} {m : Mod} (h : ModR B w vs cs m) (hb : B' ≤ B) : ModR B' w vs cs m := by
  obtain ⟨h1, ⟨cells, h2, h3⟩, h4⟩ := h
  refine ⟨own_mono9 h1 hb, ⟨cells, own_mono9 h2 hb, fun i c hc => ?_⟩, h4⟩
  obtain ⟨vv, vc, vr, vl, hcl, ho⟩ := h3 i c hc
  exact ⟨vv, vc, vr, vl, hcl, ho.mono hb⟩
def noMod : Mod := ⟨[], [], 0, 0⟩
def readA (en : Int) (l : List Tok) : Mod × Int × Int := match modelP en l with
  | .ok m _ => (m, 0, 0)
  | .bad x e => (noMod, x, e)
theorem modr_none (B : Nat) (w : World) : ModR B w (.slice none 0 0) (.slice none 0 0) noMod := ⟨World.ownsRow_nil _ _ _ _, LCr.none _ _, fun x hx => by simp [noMod] at hx⟩
theorem read_world (w : World) (v : Value) (l : List Tok) (en : Int) (hv : TArg w.heap.size w v l) (W : World)
    (hW : W = ((((w.alloc (.cells #[.slice none 0 0, .slice none 0 0, .int .i64 0, .int .i64 0] 25)).alloc (.cells #[.int .i64 0] 3)).alloc (.cells #[.int .i64 0] 26)).alloc (.map #[] 0)).alloc (.cells #[v, .int .i64 en, .map (some (w.heap.size + 1 + 1 + 1))] 88)) :
    Rd w.heap.size (w.heap.size + 1 + 1 + 1 + 1) (w.heap.size + 1 + 1 + 1) en W l ∧ NmS W (w.heap.size + 1 + 1 + 1) [] ∧ Three w.heap.size 0 0 W W ∧ Below w.heap.size w W ∧ W.heap.size = w.heap.size + 5 := by
  obtain ⟨w1, e1⟩ : ∃ w1, w1 = w.alloc (.cells #[.slice none 0 0, .slice none 0 0, .int .i64 0, .int .i64 0] 25) := ⟨_, rfl⟩
  rw [← e1] at hW
  obtain ⟨w2, e2⟩ : ∃ w2, w2 = w1.alloc (.cells #[.int .i64 0] 3) := ⟨_, rfl⟩
  rw [← e2] at hW
  obtain ⟨w3, e3⟩ : ∃ w3, w3 = w2.alloc (.cells #[.int .i64 0] 26) := ⟨_, rfl⟩
  rw [← e3] at hW
  obtain ⟨w4, e4⟩ : ∃ w4, w4 = w3.alloc (.map #[] 0) := ⟨_, rfl⟩
  rw [← e4] at hW
  have s1 : w1.heap.size = w.heap.size + 1 := by rw [e1]; simp
  have s2 : w2.heap.size = w.heap.size + 1 + 1 := by rw [e2]; simp [s1]
  have s3 : w3.heap.size = w.heap.size + 1 + 1 + 1 := by rw [e3]; simp [s2]
  have s4 : w4.heap.size = w.heap.size + 1 + 1 + 1 + 1 := by rw [e4]; simp [s3]
  have s5 : W.heap.size = w.heap.size + 1 + 1 + 1 + 1 + 1 := by rw [hW]; simp [s4]
  have b1 : Below w.heap.size w w1 := by rw [e1]; exact below_alloc _ _
  have b2 : Below w1.heap.size w1 w2 := by rw [e2]; exact below_alloc _ _
  have b3 : Below w2.heap.size w2 w3 := by rw [e3]; exact below_alloc _ _
  have b4 : Below w3.heap.size w3 w4 := by rw [e4]; exact below_alloc _ _
  have b5 : Below w4.heap.size w4 W := by rw [hW]; exact below_alloc _ _
  have h1 : w1.heap[w.heap.size]? = some (.cells #[.slice none 0 0, .slice none 0 0, .int .i64 0, .int .i64 0] 25) := by rw [e1]; exact heap_alloc_new _ _
  have h2 : w2.heap[w1.heap.size]? = some (.cells #[.int .i64 0] 3) := by rw [e2]; exact heap_alloc_new _ _
  have h3 : w3.heap[w2.heap.size]? = some (.cells #[.int .i64 0] 26) := by rw [e3]; exact heap_alloc_new _ _
  have h5 : W.heap[w4.heap.size]? = some (.cells #[v, .int .i64 en, .map (some (w.heap.size + 1 + 1 + 1))] 88) := by rw [hW]; exact heap_alloc_new _ _
  have hn : NmS w4 w3.heap.size [] := by rw [e4]; exact World.ownsMap_made _ _ _ _
  have hb : Below w.heap.size w W := b1.trans ((b2.mono (by omega)).trans ((b3.mono (by omega)).trans ((b4.mono (by omega)).trans (b5.mono (by omega)))))
  rw [s1] at h2
  rw [s2] at h3
  rw [s4] at h5
  rw [s3] at hn
  refine ⟨⟨⟨by omega, hb.size, by omega⟩, v, h5, hv.old fun p hp => hb.cell hp⟩, hn.old (b5.block _ (by omega)), ⟨?_, ?_, ?_, Fr.refl _ _⟩, hb, by omega⟩
  · exact (b5.block _ (by omega)).trans ((b4.block _ (by omega)).trans ((b3.block _ (by omega)).trans ((b2.block _ (by omega)).trans h1)))
  · exact (b5.block _ (by omega)).trans ((b4.block _ (by omega)).trans ((b3.block _ (by omega)).trans h2))
  · exact (b5.block _ (by omega)).trans ((b4.block _ (by omega)).trans h3)
theorem Three.fr {X : Nat → Prop} {b : Nat} {x er : Int} {w0 w w' : World} (h : Three b x er w0 w) (hf : Fr X w w') (h0 : ¬ X b) (h1 : ¬ X (b + 1)) (h2 : ¬ X (b + 2)) : Three b x er w' w' :=
  ⟨(hf.block _ (Array.getElem?_eq_some_iff.1 h.1).1 h0).trans h.1, (hf.block _ (Array.getElem?_eq_some_iff.1 h.2.1).1 h1).trans h.2.1, (hf.block _ (Array.getElem?_eq_some_iff.1 h.2.2.1).1 h2).trans h.2.2.1, Fr.refl _ _⟩
set_option maxHeartbeats 1600000 in
set_option maxRecDepth 100000 in
theorem read_any (v : Value) (l : List Tok) (en : Int) (w : World) (hv : TArg w.heap.size w v l) :
    Calls Tryz.prog 14 #[v, .int .i64 en] w fun e w' => ∃ vs cs, e = .returned (.tuple #[modV vs cs (readA en l).1, .int .i64 (readA en l).2.1, .int .i64 (readA en l).2.2]) ∧ ModR w.heap.size w' vs cs (readA en l).1 ∧ Below w.heap.size w w' := by
  have HV : Hid (TArg w.heap.size w v l) := hv
  obtain ⟨a, c, rfl, _⟩ := hv
  obtain ⟨m0, x0, e0, hA⟩ : ∃ m0 x0 e0, readA en l = (m0, x0, e0) := ⟨_, _, _, rfl⟩
  have HA : Hid (readA en l = (m0, x0, e0)) := hA
  rw [hA]
  simp only
  clear hA
  have hmf : ∀ (fn : Fn) (first cap : Array Value) (w : World), (Instr.makeFunc fn first cap).run Tryz.prog w = .ok (.func fn first cap) w := fun _ _ _ _ => rfl
  have hmm := @run_makeMap Tryz.prog
  go_enter_defers Tryz.func14, Tryz.ntmps14
  go_wp2_with fail
  obtain ⟨W, hW⟩ : ∃ W, W = ((((w.alloc (.cells #[.slice none 0 0, .slice none 0 0, .int .i64 0, .int .i64 0] 25)).alloc (.cells #[.int .i64 0] 3)).alloc (.cells #[.int .i64 0] 26)).alloc (.map #[] 0)).alloc (.cells #[.slice a l.length c, .int .i64 en, .map (some (w.heap.size + 1 + 1 + 1))] 88) := ⟨_, rfl⟩
  have HRW : Hid (Rd w.heap.size (w.heap.size + 1 + 1 + 1 + 1) (w.heap.size + 1 + 1 + 1) en W l ∧ NmS W (w.heap.size + 1 + 1 + 1) [] ∧ Three w.heap.size 0 0 W W ∧ Below w.heap.size w W ∧ W.heap.size = w.heap.size + 5) := read_world w _ l en HV.out W hW
  rw [← hW]
  clear hW hmf hmm
  refine (rmodel_any w.heap.size (w.heap.size + 1 + 1 + 1 + 1) (w.heap.size + 1 + 1 + 1) en W l HRW.out.1 HRW.out.2.1 (by omega)).mono ?_
  intro e w1 hp
  cases hs : modelP en l with
  | bad x er =>
    rw [hs] at hp
    obtain ⟨rfl, hfr⟩ := hp
    have HPB : Hid (m0 = noMod ∧ x0 = x ∧ e0 = er) := by have h := HA.out; unfold readA at h; rw [hs] at h; cases h; exact ⟨rfl, rfl, rfl⟩
    have HF : Hid (Fr (XRM (w.heap.size + 1 + 1 + 1 + 1) (w.heap.size + 1 + 1 + 1)) W w1) := hfr
    have HT1 : Hid (Three w.heap.size 0 0 w1 w1) := HRW.out.2.2.1.fr hfr (fun h => by rcases h with h | h <;> omega) (fun h => by rcases h with h | h <;> omega) (fun h => by rcases h with h | h <;> omega)
    clear hs hfr
    go_wp2
    refine leaves_cons (f := 40) (args := #[.pointer (some ⟨w.heap.size, 0, none⟩), .pointer (some ⟨w.heap.size + 1, 0, none⟩), .pointer (some ⟨w.heap.size + 2, 0, none⟩)]) (by simp) (by simp [go_sem]) ?_
    refine (catch_bad w.heap.size x er w1 HT1.out).mono ?_
    rintro e u' w2 ⟨rfl, rfl, h0, h1, h2, hfr2⟩
    have HE : Hid (Below w.heap.size w w2) := Fr.toBelow (((Fr.below HRW.out.2.2.2.1).trans (HF.out.weak fun k hk => by rcases hk with rfl | rfl <;> omega)).trans (hfr2.weak fun k hk => by omega))
    have r0 := blk9 h0 0 _ rfl
    have r1 := blk9 h0 1 _ rfl
    have r2 := blk9 h0 2 _ rfl
    have r3 := blk9 h0 3 _ rfl
    have r4 := blk9 h1 0 _ rfl
    have r5 := blk9 h2 0 _ rfl
    clear h0 h1 h2 hfr2
    obtain ⟨k0, k1, k2⟩ := HPB.out
    subst k0 k1 k2
    simp [Leaves, settle, results, Tryz.results14, go_sem, r0, r1, r2, r3, r4, r5]
    exact ⟨_, _, rfl, modr_none _ _, HE.out⟩
  | ok m r =>
    rw [hs] at hp
    obtain ⟨v, rfl, ⟨vs, cs, rfl, hvo, hco, hsz, hvl, hcl⟩, hrd, hfr⟩ := hp
    have HPB : Hid (m0 = m ∧ x0 = 0 ∧ e0 = 0) := by have h := HA.out; unfold readA at h; rw [hs] at h; cases h; exact ⟨rfl, rfl, rfl⟩
    have HF : Hid (Fr (XRM (w.heap.size + 1 + 1 + 1 + 1) (w.heap.size + 1 + 1 + 1)) W w1) := hfr
    have HT1 : Hid (Three w.heap.size 0 0 w1 w1) := HRW.out.2.2.1.fr hfr (fun h => by rcases h with h | h <;> omega) (fun h => by rcases h with h | h <;> omega) (fun h => by rcases h with h | h <;> omega)
    have HVO : Hid (w1.ownsRow W.heap.size 47 3 vs m.vars.length (m.vars.flatMap varC)) := hvo
    have HCO : Hid (LCr W.heap.size w1 cs m.cons) := hco
    have HSZ : Hid (∀ x ∈ m.vars, x.name.size ≤ maxLen) := hsz
    obtain ⟨a1, c1, hv1⟩ := own_form hvo
    obtain ⟨a2, c2, hv2⟩ := hco.form
    subst hv1 hv2
    obtain ⟨h0, h1, h2, _⟩ := HT1.out
    have r0 := blk9 h0 0 _ rfl
    have r1 := blk9 h0 1 _ rfl
    have r2 := blk9 h0 2 _ rfl
    have r3 := blk9 h0 3 _ rfl
    have r4 := blk9 h1 0 _ rfl
    have r5 := blk9 h2 0 _ rfl
    have z0 := frz9 h0 0
    have z1 := frz9 h0 1
    have z2 := frz9 h0 2
    have z3 := frz9 h0 3
    have z4 := frz9 h1 0
    have z5 := frz9 h2 0
    clear hs hfr hrd hvo hco hsz hvl hcl h0 h1 h2
    unfold modV
    go_wp2
    refine leaves_cons (f := 40) (args := #[.pointer (some ⟨w.heap.size, 0, none⟩), .pointer (some ⟨w.heap.size + 1, 0, none⟩), .pointer (some ⟨w.heap.size + 2, 0, none⟩)]) (by simp) (by simp [go_sem]) ?_
    refine (catch_idle w.heap.size _).mono ?_
    rintro e u' w2 ⟨rfl, rfl, rfl⟩
    obtain ⟨k0, k1, k2⟩ := HPB.out
    subst k0 k1 k2
    simp [Leaves, settle, results, Tryz.results14, go_sem, *]
    have hsW := HRW.out.2.2.2.2
    have fE : Fr (fun k => k = w.heap.size ∨ k = w.heap.size + 1 ∨ k = w.heap.size + 2) w1 _ := ((((((Fr.refl _ w1).setX (p := ⟨w.heap.size, 0, none⟩) (Or.inl rfl) (.slice a1 m0.vars.length c1)).setX (p := ⟨w.heap.size, 1, none⟩) (Or.inl rfl) (.slice a2 m0.cons.length c2)).setX (p := ⟨w.heap.size, 2, none⟩) (Or.inl rfl) (.int .i64 m0.goal)).setX (p := ⟨w.heap.size, 3, none⟩) (Or.inl rfl) (.int .i64 m0.var)).setX (p := ⟨w.heap.size + 1, 0, none⟩) (Or.inr (Or.inl rfl)) (.int .i64 0)).setX (p := ⟨w.heap.size + 1 + 1, 0, none⟩) (Or.inr (Or.inr rfl)) (.int .i64 0)
    refine ⟨_, _, rfl, (ModR.fr (B := W.heap.size) (m := m0) ⟨HVO.out, HCO.out, HSZ.out⟩ fE (fun k hk => by omega)).mono (by omega), ?_⟩
    exact Fr.toBelow (((Fr.below HRW.out.2.2.2.1).trans (HF.out.weak fun k hk => by rcases hk with rfl | rfl <;> omega)).trans (fE.weak fun k hk => by omega))
end Go.Proofs.YtdjbejlbmaiocabGreatDoor
/-
  PLAIN: tokens as they are scanned are as the reader wants them. WALK: package text: Parse.
-/
namespace Go.Proofs.YtdjbejlbmaiocabGreatDoor
open Go.RowKit

theorem extract_list (s : ByteArray) (a b : Nat) : (s.extract a b).data.toList = (s.data.toList.drop a).take (b - a) := by
  rw [ByteArray.data_extract, Array.toList_extract]
theorem take_while_all (p : UInt8 → Bool) : ∀ (l : List UInt8), ∀ c ∈ l.take (l.takeWhile p).length, p c = true
  | [], c, h => by simp at h
  | x :: l, c, h => by
    by_cases hx : p x = true
    · rw [List.takeWhile_cons_of_pos hx] at h
      simp only [List.length_cons, List.take_succ_cons, List.mem_cons] at h
      rcases h with rfl | h
      · exact hx
      · exact take_while_all p l c h
    · rw [List.takeWhile_cons_of_neg hx] at h
      simp at h
theorem tok_ok (s : ByteArray) (hs : s.size ≤ 4000) (j : Nat) (hj : j < s.size) (he : errOf (tokAt s j).kind (tokAt s j).text = 0) : TokOk (tokAt s j) := by
  refine ⟨Nat.le_trans (tokAt_size s j) hs, fun hk => ?_⟩
  have hk0 := kind_of_ok s j he
  have hlj : j < s.data.toList.length := by rw [len_size]; exact hj
  have hgt := endOf_gt _ _ hlj hk0
  have hle := (endOf_le _ _ hlj).2
  rw [len_size] at hle
  have ht : tokAt s j = ⟨kindOf s.data.toList j, j, s.extract j (endOf s.data.toList j)⟩ := by unfold tokAt; rw [if_neg hk0]
  rw [hk] at he
  rw [ht] at he hk ⊢
  simp only at he hk ⊢
  have hsz : (s.extract j (endOf s.data.toList j)).size = endOf s.data.toList j - j := size_extract s _ _ hle
  refine ⟨⟨by omega, ?_⟩, ?_⟩
  · unfold errOf at he
    rw [if_neg (by decide), if_pos rfl] at he
    split at he
    · cases he
    · omega
  · have hk2 : kindOf s.data.toList j = 2 := by omega
    have hL : ¬ isL (byteAt s.data.toList j) = true := by
      intro h; unfold kindOf at hk2; rw [if_pos h] at hk2; cases hk2
    have hD : isD (byteAt s.data.toList j) = true := by
      unfold kindOf at hk2; rw [if_neg hL] at hk2
      by_cases h : isD (byteAt s.data.toList j) = true
      · exact h
      · rw [if_neg h] at hk2; split at hk2 <;> cases hk2
    have hend : endOf s.data.toList j = runTo isD s.data.toList j := by unfold endOf; rw [if_neg hL, if_pos hD]
    intro c hc
    rw [extract_list, hend] at hc
    unfold runTo at hc
    rw [Nat.add_sub_cancel_left] at hc
    have := take_while_all isD _ c hc
    unfold isD at this
    simp at this
    omega
theorem scanF_toks (s : ByteArray) (hs : s.size ≤ 4000) : ∀ (f k : Nat) (acc : List Tok), (∀ t ∈ acc, TokOk t) → k ≤ s.size → acc.length ≤ k → (∀ t ∈ (scanF f s k acc).1, TokOk t) ∧ (scanF f s k acc).1.length ≤ s.size := by
  intro f
  induction f with
  | zero => intro k acc h1 h2 h3; exact ⟨h1, by simp only [scanF]; omega⟩
  | succ f ih =>
    intro k acc h1 h2 h3
    have hk := skipTo_le false s.data.toList k (by rw [len_size]; exact h2)
    by_cases h4 : skipTo false s.data.toList k < s.size
    · by_cases h5 : errOf (tokAt s (skipTo false s.data.toList k)).kind (tokAt s (skipTo false s.data.toList k)).text = 0
      · rw [scanF_next f s k _ acc rfl h4 h5]
        have hlj : skipTo false s.data.toList k < s.data.toList.length := by rw [len_size]; exact h4
        have hgt := endOf_gt _ _ hlj (kind_of_ok s _ h5)
        have hle := (endOf_le _ _ hlj).2
        rw [len_size] at hle
        refine ih _ _ (fun t ht => ?_) hle (by simp; omega)
        rcases List.mem_append.1 ht with ht | ht
        · exact h1 t ht
        · rw [List.mem_singleton.1 ht]; exact tok_ok s hs _ h4 h5
      · rw [scanF_err f s k _ acc rfl h4 h5]; exact ⟨fun t ht => (by cases ht), (by simp)⟩
    · rw [scanF_end _ s k acc h4]; exact ⟨h1, by simp only; omega⟩
theorem scan_toks (s : ByteArray) : (∀ t ∈ (scanOf s).1, TokOk t) ∧ (scanOf s).1.length ≤ 4000 := by
  unfold scanOf
  split
  · exact ⟨fun t ht => (by cases ht), (by simp)⟩
  · obtain ⟨h1, h2⟩ := scanF_toks s (by omega) (s.size + 1) 0 [] (fun t ht => (by cases ht)) (Nat.zero_le _) (Nat.le_refl _)
    exact ⟨h1, by omega⟩
theorem targ_own {w : World} {B : Nat} {v : Value} {l : List Tok} (h : w.ownsRow B 79 3 v l.length (toksCells l)) (hl : l.length ≤ 4000) (ht : ∀ t ∈ l, TokOk t) : TArg w.heap.size w v l := by
  obtain ⟨a, c, hv, hm, hr⟩ := row_open h
  refine ⟨a, c, hv, hm, ⟨hl, ht⟩, fun i z hz => ?_⟩
  have hi : i < l.length := (List.getElem?_eq_some_iff.1 hz).1
  obtain ⟨g, ha, hg, hc⟩ := hr i hi
  have hf := flat_get9 tokCells 3 (fun _ => rfl) l i
  exact ⟨g, 0, ha, hg, by rw [Nat.zero_add, hc _ (by omega)]; exact hf 0 z hz (by omega), by rw [Nat.zero_add, hc _ (by omega)]; exact hf 1 z hz (by omega), by rw [Nat.zero_add, hc _ (by omega)]; exact hf 2 z hz (by omega)⟩
/-- What Parse answers. -/
def parseA (s : ByteArray) : Mod × Int × Int :=
  if (scanOf s).2.2 = 0 then
    if (readA s.size (scanOf s).1).2.2 = 0 then
      if checkM (readA s.size (scanOf s).1).1 = 0 then ((readA s.size (scanOf s).1).1, 0, 0) else (noMod, 0, checkM (readA s.size (scanOf s).1).1)
    else (noMod, (readA s.size (scanOf s).1).2.1, (readA s.size (scanOf s).1).2.2)
  else (noMod, (scanOf s).2.1, (scanOf s).2.2)
theorem parse_ok {s : ByteArray} {ts : List Tok} {a : Nat} {m : Mod} {x : Int} (hs : scanOf s = (ts, a, 0)) (hr : readA s.size ts = (m, x, 0)) (hc : checkM m = 0) : parseA s = (m, 0, 0) := by
  unfold parseA; simp [hs, hr, hc]
theorem parse_check {s : ByteArray} {ts : List Tok} {a : Nat} {m : Mod} {x : Int} (hs : scanOf s = (ts, a, 0)) (hr : readA s.size ts = (m, x, 0)) (hc : ¬ checkM m = 0) : parseA s = (noMod, 0, checkM m) := by
  unfold parseA; simp [hs, hr, hc]
theorem parse_read {s : ByteArray} {ts : List Tok} {a : Nat} {m : Mod} {x e : Int} (hs : scanOf s = (ts, a, 0)) (hr : readA s.size ts = (m, x, e)) (he : ¬ e = 0) : parseA s = (noMod, x, e) := by
  unfold parseA; simp [hs, hr, he]
theorem parse_scan {s : ByteArray} {ts : List Tok} {a : Nat} {e : Int} (hs : scanOf s = (ts, a, e)) (he : ¬ e = 0) : parseA s = (noMod, (a : Int), e) := by
  unfold parseA; simp [hs, he]
theorem ret4 {w w1 : World} (h : Below w.heap.size w w1) (u0 u1 u2 u3 : Value) : Below w.heap.size w ((((w1.setCell ⟨w.heap.size, 0, none⟩ u0).setCell ⟨w.heap.size, 1, none⟩ u1).setCell ⟨w.heap.size, 2, none⟩ u2).setCell ⟨w.heap.size, 3, none⟩ u3) :=
  Fr.toBelow (((((Fr.below (X := fun k => w.heap.size ≤ k) h).setX (p := ⟨w.heap.size, 0, none⟩) (Nat.le_refl _) u0).setX (p := ⟨w.heap.size, 1, none⟩) (Nat.le_refl _) u1).setX (p := ⟨w.heap.size, 2, none⟩) (Nat.le_refl _) u2).setX (p := ⟨w.heap.size, 3, none⟩) (Nat.le_refl _) u3)
theorem ret4_mod {w w1 : World} {B : Nat} {vs cs : Value} {m : Mod} (h : ModR B w1 vs cs m) (hB : w.heap.size < B) (u0 u1 u2 u3 : Value) : ModR w.heap.size ((((w1.setCell ⟨w.heap.size, 0, none⟩ u0).setCell ⟨w.heap.size, 1, none⟩ u1).setCell ⟨w.heap.size, 2, none⟩ u2).setCell ⟨w.heap.size, 3, none⟩ u3) vs cs m :=
  (h.fr (((((Fr.refl (fun k => k < B) w1).setX (p := ⟨w.heap.size, 0, none⟩) hB u0).setX (p := ⟨w.heap.size, 1, none⟩) hB u1).setX (p := ⟨w.heap.size, 2, none⟩) hB u2).setX (p := ⟨w.heap.size, 3, none⟩) hB u3) (fun _ hk => hk)).mono (Nat.le_of_lt hB)
set_option maxHeartbeats 1600000 in
set_option maxRecDepth 100000 in
theorem parse_any (s : ByteArray) (hs : s.size ≤ maxLen) (w : World) :
    Calls Tryz.prog 6 #[.string s] w fun e w' => ∃ vs cs, e = .returned (.tuple #[modV vs cs (parseA s).1, .int .i64 (parseA s).2.1, .int .i64 (parseA s).2.2]) ∧ ModR w.heap.size w' vs cs (parseA s).1 ∧ Below w.heap.size w w' := by
  obtain ⟨m0, x0, e0, hA⟩ : ∃ m0 x0 e0, parseA s = (m0, x0, e0) := ⟨_, _, _, rfl⟩
  have HA : Hid (parseA s = (m0, x0, e0)) := hA
  rw [hA]
  simp only
  clear hA
  obtain ⟨ts, at1, e1, hsc⟩ : ∃ ts at1 e1, scanOf s = (ts, at1, e1) := ⟨_, _, _, rfl⟩
  have HSC : Hid (scanOf s = (ts, at1, e1)) := hsc
  have HTK : Hid ((∀ t ∈ ts, TokOk t) ∧ ts.length ≤ 4000) := by have h := scan_toks s; rw [hsc] at h; exact h
  have HSS : Hid (s.size ≤ maxLen) := hs
  clear hsc
  unfold maxLen at hs
  go_enter Tryz.func6, Tryz.ntmps6
  go_wp2_with fail
  have HBA := below_alloc w (.cells #[.slice none 0 0, .slice none 0 0, .int .i64 0, .int .i64 0] 25)
  have HQ0 : (w.alloc (.cells #[.slice none 0 0, .slice none 0 0, .int .i64 0, .int .i64 0] 25)).heap[w.heap.size]? = some (.cells #[.slice none 0 0, .slice none 0 0, .int .i64 0, .int .i64 0] 25) := heap_alloc_new _ _
  refine (scan_all s HSS.out _).mono ?_
  rw [HSC.out]
  rintro e w1 ⟨v1, rfl, hown1, hb1⟩
  have HO1 : Hid (TArg w1.heap.size w1 v1 ts) := targ_own hown1 HTK.out.2 HTK.out.1
  have HB1 : Hid (Below w.heap.size w w1) := HBA.trans (hb1.mono (by simp))
  have HQ1 : Hid (w1.heap[w.heap.size]? = some (.cells #[.slice none 0 0, .slice none 0 0, .int .i64 0, .int .i64 0] 25)) := (hb1.block _ (by simp)).trans HQ0
  obtain ⟨av, cv, hv1⟩ := own_form hown1
  subst hv1
  clear hown1 hb1 HBA HQ0
  by_cases he1 : e1 = 0
  · subst he1
    go_wp2_with fail
    refine (read_any _ ts _ w1 HO1.out).mono ?_
    obtain ⟨m2, x2, e2, hR⟩ : ∃ m2 x2 e2, readA s.size ts = (m2, x2, e2) := ⟨_, _, _, rfl⟩
    have HR : Hid (readA s.size ts = (m2, x2, e2)) := hR
    rw [hR]
    simp only
    clear hR
    rintro e w2 ⟨vs, cs, rfl, hma, hb2⟩
    have HMA : Hid (ModR w1.heap.size w2 vs cs m2) := hma
    have HWW : Hid (w.heap.size < w1.heap.size) := (Array.getElem?_eq_some_iff.1 HQ1.out).1
    have HB2 : Hid (Below w.heap.size w w2) := HB1.out.trans (hb2.mono HB1.out.size)
    have HQ2 : Hid (w2.heap[w.heap.size]? = some (.cells #[.slice none 0 0, .slice none 0 0, .int .i64 0, .int .i64 0] 25)) := (hb2.block _ (Array.getElem?_eq_some_iff.1 HQ1.out).1).trans HQ1.out
    obtain ⟨a1, c1, hv2⟩ := own_form hma.1
    obtain ⟨a2, c2, hv3⟩ := hma.2.1.form
    subst hv2 hv3
    clear hma
    clear hb2
    by_cases he2 : e2 = 0
    · subst he2
      obtain ⟨ce, hce⟩ : ∃ ce, checkM m2 = ce := ⟨_, rfl⟩
      have HCE : Hid (checkM m2 = ce) := hce
      clear hce
      unfold modV
      go_wp2_with fail
      have hlt2 : w.heap.size < w2.heap.size := (Array.getElem?_eq_some_iff.1 HQ2.out).1
      have HM3 : Hid (ModR w1.heap.size (w2.alloc (.cells #[.slice a1 m2.vars.length c1, .slice a2 m2.cons.length c2, .int .i64 m2.goal, .int .i64 m2.var] 25)) (.slice a1 m2.vars.length c1) (.slice a2 m2.cons.length c2) m2) := HMA.out.below (below_alloc _ _)
      have HB3 : Hid (Below w.heap.size w (w2.alloc (.cells #[.slice a1 m2.vars.length c1, .slice a2 m2.cons.length c2, .int .i64 m2.goal, .int .i64 m2.var] 25))) := HB2.out.trans ((below_alloc _ _).mono HB2.out.size)
      have HQ3 : Hid ((w2.alloc (.cells #[.slice a1 m2.vars.length c1, .slice a2 m2.cons.length c2, .int .i64 m2.goal, .int .i64 m2.var] 25)).heap[w.heap.size]? = some (.cells #[.slice none 0 0, .slice none 0 0, .int .i64 0, .int .i64 0] 25)) := ((below_alloc _ _).block _ hlt2).trans HQ2.out
      have HC3 : Hid ((w2.alloc (.cells #[.slice a1 m2.vars.length c1, .slice a2 m2.cons.length c2, .int .i64 m2.goal, .int .i64 m2.var] 25)).heap[w2.heap.size]? = some (.cells #[.slice a1 m2.vars.length c1, .slice a2 m2.cons.length c2, .int .i64 m2.goal, .int .i64 m2.var] 25)) := heap_alloc_new _ _
      refine (check_model m2 _ _ _ HM3.out.marg).mono ?_
      rw [HCE.out]
      rintro e w4 ⟨rfl, hb4⟩
      have HM4 : Hid (ModR w1.heap.size w4 (.slice a1 m2.vars.length c1) (.slice a2 m2.cons.length c2) m2) := HM3.out.below hb4
      have HB4 : Hid (Below w.heap.size w w4) := HB3.out.trans (hb4.mono HB3.out.size)
      have HQ4 : Hid (w4.heap[w.heap.size]? = some (.cells #[.slice none 0 0, .slice none 0 0, .int .i64 0, .int .i64 0] 25)) := (hb4.block _ (Array.getElem?_eq_some_iff.1 HQ3.out).1).trans HQ3.out
      have HC4 : Hid (w4.heap[w2.heap.size]? = some (.cells #[.slice a1 m2.vars.length c1, .slice a2 m2.cons.length c2, .int .i64 m2.goal, .int .i64 m2.var] 25)) := (hb4.block _ (Array.getElem?_eq_some_iff.1 HC3.out).1).trans HC3.out
      clear hb4 HM3 HB3 HQ3 HC3
      have d0 := blk9 HC4.out 0 _ rfl
      have d1 := blk9 HC4.out 1 _ rfl
      have d2 := blk9 HC4.out 2 _ rfl
      have d3 := blk9 HC4.out 3 _ rfl
      have r0 := blk9 HQ4.out 0 _ rfl
      have r1 := blk9 HQ4.out 1 _ rfl
      have r2 := blk9 HQ4.out 2 _ rfl
      have r3 := blk9 HQ4.out 3 _ rfl
      have z0 := frz9 HQ4.out 0
      have z1 := frz9 HQ4.out 1
      have z2 := frz9 HQ4.out 2
      have z3 := frz9 HQ4.out 3
      by_cases hc : ce = 0
      · subst hc
        have HX : Hid (m0 = m2 ∧ x0 = 0 ∧ e0 = 0) := by
          have h := HA.out
          rw [parse_ok HSC.out HR.out HCE.out] at h
          cases h
          exact ⟨rfl, rfl, rfl⟩
        go_wp2
        refine bodyPost_ret (by simp [results, Tryz.results6, go_sem, *]; try rfl) rfl ?_
        obtain ⟨k0, k1, k2⟩ := HX.out
        subst k0 k1 k2
        exact ⟨_, _, rfl, ret4_mod HM4.out HWW.out _ _ _ _, ret4 HB4.out _ _ _ _⟩
      · have hcb : (ce != 0) = true := by simpa using hc
        have HX : Hid (m0 = noMod ∧ x0 = 0 ∧ e0 = ce) := by
          have h := HA.out
          rw [parse_check HSC.out HR.out (by rw [HCE.out]; exact hc), HCE.out] at h
          cases h
          exact ⟨rfl, rfl, rfl⟩
        clear hc
        go_wp2
        refine bodyPost_ret (by simp [results, Tryz.results6, go_sem, *]; try rfl) rfl ?_
        obtain ⟨k0, k1, k2⟩ := HX.out
        subst k0 k1 k2
        exact ⟨_, _, rfl, modr_none _ _, ret4 HB4.out _ _ _ _⟩
    · have he2b : (e2 != 0) = true := by simpa using he2
      have HX : Hid (m0 = noMod ∧ x0 = x2 ∧ e0 = e2) := by
        have h := HA.out
        rw [parse_read HSC.out HR.out he2] at h
        cases h
        exact ⟨rfl, rfl, rfl⟩
      have r0 := blk9 HQ2.out 0 _ rfl
      have r1 := blk9 HQ2.out 1 _ rfl
      have r2 := blk9 HQ2.out 2 _ rfl
      have r3 := blk9 HQ2.out 3 _ rfl
      have z0 := frz9 HQ2.out 0
      have z1 := frz9 HQ2.out 1
      have z2 := frz9 HQ2.out 2
      have z3 := frz9 HQ2.out 3
      have hlt2 : w.heap.size < w2.heap.size := (Array.getElem?_eq_some_iff.1 HQ2.out).1
      have HB3 : Hid (Below w.heap.size w (w2.alloc (.cells #[.slice a1 m2.vars.length c1, .slice a2 m2.cons.length c2, .int .i64 m2.goal, .int .i64 m2.var] 25))) := HB2.out.trans ((below_alloc _ _).mono HB2.out.size)
      clear he2
      unfold modV
      go_wp2
      refine bodyPost_ret (by simp [results, Tryz.results6, go_sem, *]; try rfl) rfl ?_
      obtain ⟨k0, k1, k2⟩ := HX.out
      subst k0 k1 k2
      refine ⟨_, _, rfl, modr_none _ _, ?_⟩
      rw [← World.setCell_alloc_past _ _ _ _ (by simpa using hlt2), ← World.setCell_alloc_past _ _ _ _ (by simpa using hlt2), ← World.setCell_alloc_past _ _ _ _ (by simpa using hlt2), ← World.setCell_alloc_past _ _ _ _ (by simpa using hlt2)]
      exact ret4 HB3.out _ _ _ _
  · have he1b : (e1 != 0) = true := by simpa using he1
    have HX : Hid (m0 = noMod ∧ x0 = (at1 : Int) ∧ e0 = e1) := by
      have h := HA.out
      rw [parse_scan HSC.out he1] at h
      cases h
      exact ⟨rfl, rfl, rfl⟩
    have r0 := blk9 HQ1.out 0 _ rfl
    have r1 := blk9 HQ1.out 1 _ rfl
    have r2 := blk9 HQ1.out 2 _ rfl
    have r3 := blk9 HQ1.out 3 _ rfl
    have z0 := frz9 HQ1.out 0
    have z1 := frz9 HQ1.out 1
    have z2 := frz9 HQ1.out 2
    have z3 := frz9 HQ1.out 3
    clear he1
    go_wp2
    refine bodyPost_ret (by simp [results, Tryz.results6, go_sem, *]; try rfl) rfl ?_
    obtain ⟨k0, k1, k2⟩ := HX.out
    subst k0 k1 k2
    exact ⟨_, _, rfl, modr_none _ _, ret4 HB1.out _ _ _ _⟩
end Go.Proofs.YtdjbejlbmaiocabGreatDoor
/-
  PLAIN: tokens as they are scanned are as the readers' agreement wants them.
-/
namespace Go.Proofs.YtdjbejlbmaiocabGreatDoor

theorem tok_solid (s : ByteArray) (j : Nat) (hj : j < s.size) (he : errOf (tokAt s j).kind (tokAt s j).text = 0) : (tokAt s j).kind ≠ 0 ∧ ((tokAt s j).text.toList == ByteArray.empty.toList) = false ∧ ((tokAt s j).kind = 2 ↔ dig0 (tokAt s j).text = true) := by
  have hk0 := kind_of_ok s j he
  have hlj : j < s.data.toList.length := by rw [len_size]; exact hj
  have hgt := endOf_gt _ _ hlj hk0
  have ht : tokAt s j = ⟨kindOf s.data.toList j, j, s.extract j (endOf s.data.toList j)⟩ := by unfold tokAt; rw [if_neg hk0]
  have hx : (s.extract j (endOf s.data.toList j)).data.toList = byteAt s.data.toList j :: (s.data.toList.drop (j + 1)).take (endOf s.data.toList j - j - 1) := by
    rw [extract_list, List.drop_eq_getElem_cons hlj, byteAt_get _ _ hlj]
    obtain ⟨n, hn⟩ : ∃ n, endOf s.data.toList j - j = n + 1 := ⟨endOf s.data.toList j - j - 1, by omega⟩
    rw [hn, List.take_succ_cons]
    simp
  rw [ht]
  refine ⟨by simp only; omega, ?_, ?_⟩
  · show ((s.extract j (endOf s.data.toList j)).toList == ByteArray.empty.toList) = false
    rw [ByteArray.toList_eq, hx]
    cases h : (byteAt s.data.toList j :: (s.data.toList.drop (j + 1)).take (endOf s.data.toList j - j - 1) == ByteArray.empty.toList)
    · rfl
    · have := beq_iff_eq.1 h
      rw [ByteArray.toList_eq] at this
      cases this
  · have hd : dig0 (s.extract j (endOf s.data.toList j)) = isD (byteAt s.data.toList j) := by unfold dig0; rw [hx]
    show ((kindOf s.data.toList j : Nat) : Int) = 2 ↔ dig0 (s.extract j (endOf s.data.toList j)) = true
    rw [hd]
    unfold kindOf
    constructor
    · intro h
      split at h
      · simp at h
      · split at h
        · assumption
        · split at h <;> simp at h
    · intro h
      have hL : isL (byteAt s.data.toList j) = false := by
        cases hq : isL (byteAt s.data.toList j)
        · rfl
        · unfold isL at hq
          unfold isD at h
          simp at hq h
          omega
      rw [hL, h]
      rfl
theorem scanF_solid (s : ByteArray) : ∀ (f k : Nat) (acc : List Tok), Solid acc → Solid (scanF f s k acc).1 := by
  intro f
  induction f with
  | zero => intro k acc h; exact h
  | succ f ih =>
    intro k acc h
    by_cases h4 : skipTo false s.data.toList k < s.size
    · by_cases h5 : errOf (tokAt s (skipTo false s.data.toList k)).kind (tokAt s (skipTo false s.data.toList k)).text = 0
      · rw [scanF_next f s k _ acc rfl h4 h5]
        refine ih _ _ (fun t ht => ?_)
        rcases List.mem_append.1 ht with ht | ht
        · exact h t ht
        · rw [List.mem_singleton.1 ht]; exact tok_solid s _ h4 h5
      · rw [scanF_err f s k _ acc rfl h4 h5]; exact fun t ht => by cases ht
    · rw [scanF_end _ s k acc h4]; exact h
theorem scan_solid (s : ByteArray) : Solid (scanOf s).1 := by
  unfold scanOf
  split
  · exact fun t ht => by cases ht
  · exact scanF_solid s _ _ _ (fun t ht => by cases ht)
end Go.Proofs.YtdjbejlbmaiocabGreatDoor
/-
  WALK: the reference's ScanOf at every text; its reader in memory while it parses: a variable that is being read.
-/
namespace Go.Proofs.YtdjbejlbmaiocabGreatDoor
open Go.RowKit

set_option maxHeartbeats 400000 in
theorem rscan_all (s : ByteArray) (hs : s.size ≤ maxLen) (w : World) :
    Calls Tryz.prog 16 #[.string s] w fun e w' => ∃ v, e = .returned (.tuple #[v, .int .i64 (scanOf s).2.1, .int .i64 (scanOf s).2.2]) ∧
      w'.ownsRow w.heap.size 79 3 v (scanOf s).1.length (toksCells (scanOf s).1) ∧ Below w.heap.size w w' := by
  by_cases h4 : s.size ≤ 4000
  · exact rscan_any s h4 w
  · have e : scanOf s = ([], 0, 2) := by unfold scanOf; rw [if_pos (by omega)]
    rw [e]
    unfold maxLen at hs
    have h5 : 4000 < s.size := by omega
    clear h4 e
    go_enter Tryz.func16, Tryz.ntmps16
    go_wp2
    refine bodyPost_ret (by simp [results, Tryz.results16, go_sem, *]; try rfl) rfl ?_
    exact ⟨.slice none 0 0, rfl, World.ownsRow_nil _ _ _ _, Below.refl _ _⟩

section
variable {c : RC} {p : RP} {w : World}
theorem RSt.field (h : RSt c p w) (c' : RC) (hN : c'.N = c.N) (hR : c'.R = c.R) (hT : c'.T = c.T) (i : Nat) (u : Value) (hnb : c'.NB ≤ w.heap.size)
    (hcs : ∀ v, (#[v, .int .i64 p.k, .int .i64 c.en, .int .i64 p.er, c.vv, c.vc, .int .i64 c.g, .int .i64 c.x] : Array Value).setIfInBounds i u = #[v, .int .i64 p.k, .int .i64 c'.en, .int .i64 p.er, c'.vv, c'.vc, .int .i64 c'.g, .int .i64 c'.x])
    (hnm : NArg c'.R c'.NB (w.setCell ⟨c.R, i, none⟩ u) c'.vv c'.nm) : RSt c' p (w.setCell ⟨c.R, i, none⟩ u) := by
  obtain ⟨h1, h2, hn, h3, hd, h4, v, hb, hTA⟩ := h
  refine ⟨by rw [hN, hR]; exact h1, by rw [hN]; simpa using h2, by simpa using hnb, by rw [hT]; exact h3, by rw [hT]; exact hd, hnm, v, ?_, ?_⟩
  · rw [hR, heap_setCell_same w c.R i _ _ _ hb, hcs v]
  · rw [hN, hT]; exact hTA.old fun q hq => World.cell?_of_block (Below.heap_setCell _ _ _ _ (by show q.block ≠ c.R; omega))
theorem RSt.setVc (h : RSt c p w) (u : Value) : RSt { c with vc := u } p (w.setCell ⟨c.R, 5, none⟩ u) :=
  h.field { c with vc := u } rfl rfl rfl 5 u h.nb (fun _ => rfl) (h.nms.fr h.nb (fr_set _ _ _ _))
theorem RSt.setG (h : RSt c p w) (n : Int) : RSt { c with g := n } p (w.setCell ⟨c.R, 6, none⟩ (.int .i64 n)) :=
  h.field { c with g := n } rfl rfl rfl 6 _ h.nb (fun _ => rfl) (h.nms.fr h.nb (fr_set _ _ _ _))
theorem RSt.setX (h : RSt c p w) (n : Int) : RSt { c with x := n } p (w.setCell ⟨c.R, 7, none⟩ (.int .i64 n)) :=
  h.field { c with x := n } rfl rfl rfl 7 _ h.nb (fun _ => rfl) (h.nms.fr h.nb (fr_set _ _ _ _))
/-- The variables are laid into the reader's model. -/
theorem RSt.setVv (h : RSt c p w) {B : Nat} {o : Value} {vars : List MVar} (ho : w.ownsRow B 47 3 o vars.length (vars.flatMap varC)) : RSt { c with vv := o, nm := vars.map MVar.name, NB := w.heap.size } p (w.setCell ⟨c.R, 4, none⟩ o) := by
  obtain ⟨v9, hb9, _⟩ := h.blk
  refine h.field { c with vv := o, nm := vars.map MVar.name, NB := w.heap.size } rfl rfl rfl 4 _ (Nat.le_refl _) (fun v => rfl) ?_
  obtain ⟨a, cc, hv, hmm, hr⟩ := row_open (own_set ho hb9 (by decide) 4 o)
  refine ⟨a, cc, by simpa using hv, by simpa using hmm, fun i t ht => ?_⟩
  simp only [List.getElem?_map, Option.map_eq_some_iff] at ht
  obtain ⟨z, hz, rfl⟩ := ht
  have hi : i < vars.length := (List.getElem?_eq_some_iff.1 hz).1
  obtain ⟨g, ha, hg, hc⟩ := hr i hi
  have hf := flat_get9 varC 3 (fun _ => rfl) vars i
  refine ⟨g, 0, ha, ?_, by simpa using hg, by rw [Nat.zero_add, hc _ (by omega)]; exact hf 0 z hz (by omega)⟩
  intro e
  have hlt := (own_set ho hb9 (by decide) 4 o)
  rcases hlt.2 with ⟨e1, e2⟩ | ⟨g', cap', cur', hv', _, hh, _⟩
  · omega
  · rw [hv'] at hv
    injection hv with e3
    rw [ha] at e3
    have e4 : g' = g := by injection e3 with e5; injection e5
    rw [e4, e, heap_setCell_same w c.R 4 _ _ _ hb9] at hh
    injection hh with h1
    injection h1 with _ h2
    exact absurd h2 (by decide)
end
/-- A row stays when a block that is not its own is written. -/
theorem own_other {w : World} {B : Nat} {e : TypeId} {size n : Nat} {v : Value} {xs : List Value} (h : w.ownsRow B e size v n xs) {C : Nat} (hC : v.ownBlock ≠ some C) (i : Nat) (u : Value) : (w.setCell ⟨C, i, none⟩ u).ownsRow B e size v n xs := by
  refine ⟨h.1, ?_⟩
  rcases h.2 with hn | ⟨g, cap, cur, hv, hg, hh, r⟩
  · exact .inl hn
  · have hne : g ≠ C := fun e1 => hC (by rw [hv, e1]; rfl)
    exact .inr ⟨g, cap, cur, hv, hg, (Below.heap_setCell _ _ _ _ hne).trans hh, r⟩
/-- While a variable is read. -/
structure VB (c : RC) (W w : World) (p : RP) (b : Nat) (nm : ByteArray) (lo hi : Int) (o : Value) (acc : List MVar) : Prop where
  st : RSt c p w
  fr : Fr (XR9 c.R) W w
  box : w.heap[b]? = some (.cells #[.string nm, .int .i64 lo, .int .i64 hi] 47)
  bW : W.heap.size ≤ b
  Rw : c.R < W.heap.size
  Nw : c.N ≤ W.heap.size
  NBw : c.NB ≤ W.heap.size
  own : w.ownsRow W.heap.size 47 3 o acc.length (acc.flatMap varC)
  ap : o.ownBlock ≠ some b
section
variable {c : RC} {W w w' : World} {p p' : RP} {b : Nat} {nm : ByteArray} {lo hi : Int} {o : Value} {acc : List MVar}
theorem VB.call (h : VB c W w p b nm lo hi o acc) (hf : Fr (XR9 c.R) w w') (hst : RSt c p' w') : VB c W w' p' b nm lo hi o acc :=
  ⟨hst, h.fr.trans hf, (hf.block _ (Array.getElem?_eq_some_iff.1 h.box).1 (by have h1 := h.Rw; have h2 := h.bW; show ¬ _ = _; omega)).trans h.box, h.bW, h.Rw, h.Nw, h.NBw, own_fr h.own hf (fun j hj => by have h1 : j = c.R := hj; rw [h1]; exact h.Rw), h.ap⟩
theorem VB.below (h : VB c W w p b nm lo hi o acc) (hb : Below w.heap.size w w') : VB c W w' p b nm lo hi o acc := h.call (Fr.below hb) (h.st.below hb)
theorem VB.put (h : VB c W w p b nm lo hi o acc) (i : Nat) (u : Value) (lo' hi' : Int) (hcs : (#[.string nm, .int .i64 lo, .int .i64 hi] : Array Value).setIfInBounds i u = #[.string nm, .int .i64 lo', .int .i64 hi']) : VB c W (w.setCell ⟨b, i, none⟩ u) p b nm lo' hi' o acc where
  st := h.st.set (q := ⟨b, i, none⟩) (by have h1 := h.Rw; have h2 := h.bW; show b ≠ c.R; omega) (by have h1 := h.Nw; have h2 := h.bW; show c.N ≤ b; omega) (by have h1 := h.NBw; have h2 := h.bW; show c.NB ≤ b; omega) u
  fr := h.fr.setNew (p := ⟨b, i, none⟩) h.bW u
  box := by rw [heap_setCell_same w _ i _ _ _ h.box, hcs]
  bW := h.bW
  Rw := h.Rw
  Nw := h.Nw
  NBw := h.NBw
  own := own_other h.own h.ap i u
  ap := h.ap
theorem VB.setLo (h : VB c W w p b nm lo hi o acc) (n : Int) : VB c W (w.setCell ⟨b, 1, none⟩ (.int .i64 n)) p b nm n hi o acc := h.put 1 _ n hi rfl
theorem VB.setHi (h : VB c W w p b nm lo hi o acc) (n : Int) : VB c W (w.setCell ⟨b, 2, none⟩ (.int .i64 n)) p b nm lo n o acc := h.put 2 _ lo n rfl
theorem VB.step (h : VB c W w p b nm lo hi o acc) (hk : p.k + 1 ≤ c.T.length) : VB c W (w.setCell ⟨c.R, 1, none⟩ (.int .i64 ((p.k + 1 : Nat) : Int))) ⟨p.k + 1, p.er⟩ b nm lo hi o acc :=
  h.call (fr_set _ _ _ _) (h.st.setAt (p.k + 1) hk)
end
end Go.Proofs.YtdjbejlbmaiocabGreatDoor
