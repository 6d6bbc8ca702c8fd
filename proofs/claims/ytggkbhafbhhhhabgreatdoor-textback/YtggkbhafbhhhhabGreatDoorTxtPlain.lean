/-
  PLAIN: what the reader of texts does: tokens are taken one by one; what can't stand there is told with its place.
-/
import Derived.Test.YtggkbhafbhhhhabGreatDoorModPlain
namespace Go.Proofs.YtggkbhafbhhhhabGreatDoor

/-- Of a token that is a number: it has one to four digits. -/
def TokOk (t : Tok) : Prop := t.text.size ≤ 4000 ∧ (t.kind = 2 → (1 ≤ t.text.size ∧ t.text.size ≤ 4) ∧ ∀ c ∈ t.text.data.toList, 48 ≤ c.toNat ∧ c.toNat ≤ 57)
/-- What a part of the reader comes to: a thing and the tokens that are left, or a place and an error. -/
inductive PR (α : Type) where
  | ok (a : α) (rest : List Tok)
  | bad (place e : Int)
def PR.bind {α β : Type} (p : PR α) (f : α → List Tok → PR β) : PR β :=
  match p with
  | .ok a r => f a r
  | .bad x e => .bad x e
def headT (en : Int) : List Tok → Tok
  | [] => ⟨0, en, ByteArray.empty⟩
  | t :: _ => t
def passP (en : Int) (fits : Bool) (l : List Tok) : PR Tok := if fits then .ok (headT en l) l.tail else .bad (headT en l).place 1
def skipP (en : Int) (s : ByteArray) (l : List Tok) : PR Tok := passP en ((headT en l).text.toList == s.toList) l
/-- Is a text a name? -/
def nameB (s : ByteArray) : Bool := checkM ⟨[⟨s, 0, 0⟩], [], 0, 0⟩ == 0
def newNameP (en : Int) (l : List Tok) : PR ByteArray := (passP en (nameB (headT en l).text) l).bind fun t r => .ok t.text r
/-- Where a text stands first in a list, counted on. -/
def idxA : List ByteArray → ByteArray → Nat → Int
  | [], _, _ => -1
  | x :: r, n, k => if n.toList == x.toList then (k : Int) else idxA r n (k + 1)
def oneOfP (en : Int) (texts : List ByteArray) (l : List Tok) : PR Int :=
  (passP en (decide (0 ≤ idxA texts (headT en l).text 0) && ((headT en l).kind != 0)) l).bind fun _ r => .ok (idxA texts (headT en l).text 0) r
/-- The number that digits spell. -/
def digV (l : List UInt8) : Int := l.foldl (fun n c => n * 10 + ((c.toNat : Int) - 48)) 0
def numberP (en : Int) (l : List Tok) : PR Int :=
  if (headT en l).text.toList == [45] then
    (skipP en ⟨#[45]⟩ l).bind fun _ l => (passP en (((headT en l).kind == 2) && (!((headT en l).text.toList == [48]))) l).bind fun t r => .ok (-1 * digV t.text.data.toList) r
  else (passP en ((headT en l).kind == 2) l).bind fun t r => .ok (1 * digV t.text.data.toList) r
/-- Which variable has a name, as far as names have come: the last one that does. -/
def nameAt : List ByteArray → ByteArray → Int × Bool
  | [], _ => (0, false)
  | n :: r, s => if (nameAt r s).2 then ((nameAt r s).1 + 1, true) else if n.data.toList = s.data.toList then (0, true) else (0, false)
def nameP (en : Int) (names : List ByteArray) (l : List Tok) : PR Int :=
  if (nameAt names (headT en l).text).2 then (passP en true l).bind fun _ r => .ok (nameAt names (headT en l).text).1 r
  else if nameB (headT en l).text then .bad (headT en l).place 5 else .bad (headT en l).place 1
theorem nameAt_next (s n : ByteArray) : ∀ l : List ByteArray, nameAt (l ++ [n]) s = if n.data.toList = s.data.toList then ((l.length : Int), true) else nameAt l s
  | [] => by
    simp [nameAt]
  | m :: l => by
    have ih := nameAt_next s n l
    simp only [List.cons_append, nameAt, ih]
    by_cases h : n.data.toList = s.data.toList
    · rw [if_pos h, if_pos h]
      simp
    · rw [if_neg h, if_neg h]
theorem nameAt_bound (s : ByteArray) : ∀ l : List ByteArray, 0 ≤ (nameAt l s).1 ∧ ((nameAt l s).2 = true → (nameAt l s).1 < l.length)
  | [] => by simp [nameAt]
  | m :: l => by
    have ih := nameAt_bound s l
    simp only [nameAt]
    split
    · rename_i h
      have := ih.2 h
      simp; omega
    · split
      · simp
      · simp
theorem nameAt_empty : ∀ l : List ByteArray, (∀ n ∈ l, n.data.toList ≠ []) → nameAt l ByteArray.empty = (0, false)
  | [], _ => rfl
  | n :: l, h => by
    have ih := nameAt_empty l fun m hm => h m (List.mem_cons_of_mem _ hm)
    simp only [nameAt, ih]
    rw [if_neg (by simp), if_neg (show ¬ n.data.toList = ByteArray.empty.data.toList from h n (List.mem_cons_self ..))]
/-- What comes behind a list's first thing. -/
def moreP {α : Type} (en : Int) (item : List Tok → PR α) : Nat → List α → List Tok → PR (List α)
  | 0, _, _ => .bad 0 0
  | f + 1, acc, l =>
    if (headT en l).text.toList == [44] then (skipP en ⟨#[44]⟩ l).bind fun _ l => (item l).bind fun x l => moreP en item f (acc ++ [x]) l
    else (skipP en ⟨#[93]⟩ l).bind fun _ l => .ok acc l
def readP {α : Type} (en : Int) (item : List Tok → PR α) (l : List Tok) : PR (List α) :=
  (skipP en ⟨#[91]⟩ l).bind fun _ l =>
    if (headT en l).text.toList == [93] then (skipP en ⟨#[93]⟩ l).bind fun _ l => .ok [] l
    else (item l).bind fun x l => moreP en item (l.length + 1) [x] l
/-- A part of the reader never gives tokens back. -/
def Eats {α : Type} (item : List Tok → PR α) : Prop := ∀ l x r, item l = .ok x r → r.length ≤ l.length
theorem PR.bind_ok {α β : Type} {p : PR α} {f : α → List Tok → PR β} {b : β} {r : List Tok} (h : p.bind f = .ok b r) : ∃ a q, p = .ok a q ∧ f a q = .ok b r := by
  cases p with
  | ok a q => exact ⟨a, q, rfl, h⟩
  | bad x e => cases h
theorem pass_eats (en : Int) (l : List Tok) (fits : Bool) (t : Tok) (r : List Tok) (h : passP en fits l = .ok t r) : r = l.tail := by
  unfold passP at h
  split at h
  · cases h; rfl
  · cases h
theorem eats_pass {α : Type} (en : Int) (g : List Tok → Bool) (f : Tok → List Tok → α) : Eats fun l => (passP en (g l) l).bind fun t r => .ok (f t r) r := by
  intro l x r h
  obtain ⟨t, q, h1, h2⟩ := PR.bind_ok h
  have := pass_eats en l _ t q h1
  cases h2
  rw [this]
  simp
theorem eats_name (en : Int) (names : List ByteArray) : Eats (nameP en names) := by
  intro l x r h
  unfold nameP at h
  split at h
  · obtain ⟨t, q, h1, h2⟩ := PR.bind_ok h
    have := pass_eats en l _ t q h1
    cases h2
    rw [this]; simp
  · split at h <;> cases h
theorem eats_skip (en : Int) (s : ByteArray) : Eats (skipP en s) := by
  intro l x r h
  rw [pass_eats en l _ x r h]; simp
theorem eats_number (en : Int) : Eats (numberP en) := by
  intro l x r h
  unfold numberP at h
  split at h
  · obtain ⟨t, q, h1, h2⟩ := PR.bind_ok h
    obtain ⟨t2, q2, h3, h4⟩ := PR.bind_ok h2
    have e1 := eats_skip en _ l t q h1
    have e2 := pass_eats en q _ t2 q2 h3
    cases h4
    rw [e2]; simp; omega
  · obtain ⟨t2, q2, h3, h4⟩ := PR.bind_ok h
    have e2 := pass_eats en l _ t2 q2 h3
    cases h4
    rw [e2]; simp
theorem eats_more {α : Type} (en : Int) (item : List Tok → PR α) (hi : Eats item) : ∀ (f : Nat) (acc : List α), Eats (moreP en item f acc)
  | 0, acc => fun l x r h => by cases h
  | f + 1, acc => fun l x r h => by
    unfold moreP at h
    split at h
    · obtain ⟨t, q, h1, h2⟩ := PR.bind_ok h
      obtain ⟨t2, q2, h3, h4⟩ := PR.bind_ok h2
      have e1 := eats_skip en _ l t q h1
      have e2 := hi q t2 q2 h3
      have e3 := eats_more en item hi f _ q2 x r h4
      omega
    · obtain ⟨t, q, h1, h2⟩ := PR.bind_ok h
      have e1 := eats_skip en _ l t q h1
      cases h2
      exact e1
theorem eats_read {α : Type} (en : Int) (item : List Tok → PR α) (hi : Eats item) : Eats (readP en item) := by
  intro l x r h
  unfold readP at h
  obtain ⟨t, q, h1, h2⟩ := PR.bind_ok h
  have e1 := eats_skip en _ l t q h1
  split at h2
  · obtain ⟨t2, q2, h3, h4⟩ := PR.bind_ok h2
    have e2 := eats_skip en _ q t2 q2 h3
    cases h4
    omega
  · obtain ⟨t2, q2, h3, h4⟩ := PR.bind_ok h2
    have e2 := hi q t2 q2 h3
    have e3 := eats_more en item hi _ _ q2 x r h4
    omega
def opWL : List ByteArray := [⟨#[]⟩, ⟨#[60, 61]⟩, ⟨#[62, 61]⟩, ⟨#[61, 61]⟩, ⟨#[33, 61]⟩]
def goalWL : List ByteArray := [⟨#[97, 110, 121]⟩, ⟨#[108, 101, 97, 115, 116]⟩, ⟨#[109, 111, 115, 116]⟩]
def conWL : List ByteArray := [⟨#[]⟩, ⟨#[108, 101]⟩, ⟨#[101, 113]⟩, ⟨#[110, 101]⟩, ⟨#[100, 105, 102, 102, 101, 114]⟩, ⟨#[101, 108, 101, 109, 101, 110, 116]⟩, ⟨#[116, 97, 98, 108, 101]⟩, ⟨#[116, 105, 109, 101, 115]⟩, ⟨#[109, 97, 120]⟩, ⟨#[99, 108, 97, 117, 115, 101]⟩, ⟨#[105, 102, 102]⟩]
def litP (en : Int) (names : List ByteArray) (l : List Tok) : PR MLit :=
  (nameP en names l).bind fun v l => (oneOfP en opWL l).bind fun op l => (numberP en l).bind fun n l => .ok ⟨v, op, n⟩ l
theorem eats_oneOf (en : Int) (texts : List ByteArray) : Eats (oneOfP en texts) := by
  intro l x r h
  unfold oneOfP at h
  obtain ⟨t, q, h1, h2⟩ := PR.bind_ok h
  have := pass_eats en l _ t q h1
  cases h2
  rw [this]; simp
theorem eats_lit (en : Int) (names : List ByteArray) : Eats (litP en names) := by
  intro l x r h
  unfold litP at h
  obtain ⟨t, q, h1, h2⟩ := PR.bind_ok h
  obtain ⟨t2, q2, h3, h4⟩ := PR.bind_ok h2
  obtain ⟨t3, q3, h5, h6⟩ := PR.bind_ok h4
  have e1 := eats_name en names l t q h1
  have e2 := eats_oneOf en opWL q t2 q2 h3
  have e3 := eats_number en q2 t3 q3 h5
  cases h6
  omega
def varW : ByteArray := ⟨#[118, 97, 114]⟩
def colW : ByteArray := ⟨#[58]⟩
def dotsW : ByteArray := ⟨#[46, 46]⟩
def semiW : ByteArray := ⟨#[59]⟩
def conW : ByteArray := ⟨#[99, 111, 110]⟩
def solveW : ByteArray := ⟨#[115, 111, 108, 118, 101]⟩
def newVarP (en : Int) (l : List Tok) : PR MVar :=
  (skipP en varW l).bind fun _ l => (newNameP en l).bind fun n l => (skipP en colW l).bind fun _ l => (numberP en l).bind fun lo l => (skipP en dotsW l).bind fun _ l => (numberP en l).bind fun hi l => (skipP en semiW l).bind fun _ l => .ok ⟨n, lo, hi⟩ l
def goalP (en : Int) (names : List ByteArray) (l : List Tok) : PR (Int × Int) :=
  (skipP en solveW l).bind fun _ l => (oneOfP en goalWL l).bind fun g l =>
    if g = 0 then (skipP en semiW l).bind fun _ l => .ok (g, 0) l
    else (nameP en names l).bind fun v l => (skipP en semiW l).bind fun _ l => .ok (g, v) l
/-- What a constraint of a kind has behind its word. -/
def bodyP (en : Int) (names : List ByteArray) (k : Int) (l : List Tok) : PR MCon :=
  if k = 1 ∨ k = 2 ∨ k = 3 then (readP en (numberP en) l).bind fun cs l => (readP en (nameP en names) l).bind fun vs l => (numberP en l).bind fun n l => .ok ⟨k, vs, cs, n, [], []⟩ l
  else if k = 4 then (readP en (nameP en names) l).bind fun vs l => .ok ⟨k, vs, [], 0, [], []⟩ l
  else if k = 5 then (readP en (numberP en) l).bind fun cs l => (nameP en names l).bind fun a l => (nameP en names l).bind fun b l => .ok ⟨k, [a, b], cs, 0, [], []⟩ l
  else if k = 6 then (readP en (nameP en names) l).bind fun vs l => (readP en (readP en (numberP en)) l).bind fun rs l => .ok ⟨k, vs, [], 0, rs, []⟩ l
  else if k = 7 then (nameP en names l).bind fun a l => (nameP en names l).bind fun b l => (nameP en names l).bind fun c l => .ok ⟨k, [a, b, c], [], 0, [], []⟩ l
  else if k = 8 then (nameP en names l).bind fun a l => (readP en (nameP en names) l).bind fun vs l => .ok ⟨k, [a] ++ vs, [], 0, [], []⟩ l
  else if k = 9 then (readP en (litP en names) l).bind fun ls l => .ok ⟨k, [], [], 0, [], ls⟩ l
  else if k = 10 then (nameP en names l).bind fun a l => (litP en names l).bind fun t l => .ok ⟨k, [a], [], 0, [], [t]⟩ l
  else .ok ⟨k, [], [], 0, [], []⟩ l
def conP (en : Int) (names : List ByteArray) (l : List Tok) : PR MCon :=
  (skipP en conW l).bind fun _ l => (oneOfP en conWL l).bind fun k l => (bodyP en names k l).bind fun c l => (skipP en semiW l).bind fun _ l => .ok c l
def varsP (en : Int) : Nat → List MVar → List Tok → PR (List MVar)
  | 0, _, _ => .bad 0 0
  | f + 1, acc, l => if (headT en l).text.toList == [118, 97, 114] then (newVarP en l).bind fun v l => varsP en f (acc ++ [v]) l else .ok acc l
def consP (en : Int) (names : List ByteArray) : Nat → List MCon → List Tok → PR (List MCon)
  | 0, _, _ => .bad 0 0
  | f + 1, acc, l => if (headT en l).text.toList == [99, 111, 110] then (conP en names l).bind fun c l => consP en names f (acc ++ [c]) l else .ok acc l
def modelP (en : Int) (l : List Tok) : PR Mod :=
  (varsP en (l.length + 1) [] l).bind fun vs l => (consP en (vs.map MVar.name) (l.length + 1) [] l).bind fun cs l => (goalP en (vs.map MVar.name) l).bind fun g l =>
    if 0 < l.length then .bad (headT en l).place 1 else .ok ⟨vs, cs, g.1, g.2⟩ l
end Go.Proofs.YtggkbhafbhhhhabGreatDoor
