/-
  PART 12 of what the proof leans on (TxtPlain, TxtA, TxtB, TxtC, TxtLib, TxtD, TxtE).
-/
import Derived.Test.YtdjbejlbmaiocagGreatDoorPartK
import Derived.Defers
import Derived.Recover
import Derived.Shelf.Strings.Builder1
import Derived.Shelf.Strings.Builder2
import Derived.Shelf.Strings.OnBuilder
import Derived.Shelf.Strings.BuilderF
import Derived.Shelf.Strconv.Atoi
import Derived.Shelf.Strconv.Itoa0
import Derived.Shelf.Strconv.Itoa1
import Derived.Shelf.LaysM
import Derived.Shelf.Strconv.Itoa2
import Derived.Shelf.Strconv.Itoa3
import Derived.Test.YtdjbejlbmaiocagGreatDoorProg
import Derived.Lib.AtoiErrMem
import Derived.Maps.OwnSet
import Derived.Maps.Views
import Derived.StringKeys
import Derived.Deep.RegionHeld3
/-
  PLAIN: what the reader of texts does: tokens are taken one by one; what can't stand there is told with its place.
-/
namespace Go.Proofs.YtdjbejlbmaiocagGreatDoor

/-- Of a token that is a number: it has one to four digits. -/
def TokOk (t : Tok) : Prop := t.text.size ≤ 4000 ∧ (t.kind = 2 → (1 ≤ t.text.size ∧ t.text.size ≤ 4) ∧ ∀ c ∈ t.text.data.toList, 48 ≤ c.toNat ∧ c.toNat ≤ 57)
/-- What a part of the reader comes to: a thing and the tokens that are left, or a place and an error. -/
inductive PR (α : Type) where
  | ok (a : α) (rest : List Tok)
  | bad (place e : Int)
def PR.bind {α β : Type} (p : PR α) (f : α → List Tok → PR β) : PR β :=
  match p with
  | .ok a r => f a r
  | .bad x e => .bad x e
def headT (en : Int) : List Tok → Tok
  | [] => ⟨0, en, ByteArray.empty⟩
  | t :: _ => t
def passP (en : Int) (fits : Bool) (l : List Tok) : PR Tok := if fits then .ok (headT en l) l.tail else .bad (headT en l).place 1
def skipP (en : Int) (s : ByteArray) (l : List Tok) : PR Tok := passP en ((headT en l).text.toList == s.toList) l
/-- Is a text a name? -/
def nameB (s : ByteArray) : Bool := checkM ⟨[⟨s, 0, 0⟩], [], 0, 0⟩ == 0
def newNameP (en : Int) (l : List Tok) : PR ByteArray := (passP en (nameB (headT en l).text) l).bind fun t r => .ok t.text r
/-- Where a text stands first in a list, counted on. -/
def idxA : List ByteArray → ByteArray → Nat → Int
  | [], _, _ => -1
  | x :: r, n, k => if n.toList == x.toList then (k : Int) else idxA r n (k + 1)
def oneOfP (en : Int) (texts : List ByteArray) (l : List Tok) : PR Int :=
  (passP en (decide (0 ≤ idxA texts (headT en l).text 0) && ((headT en l).kind != 0)) l).bind fun _ r => .ok (idxA texts (headT en l).text 0) r
/-- The number that digits spell. -/
def digV (l : List UInt8) : Int := l.foldl (fun n c => n * 10 + ((c.toNat : Int) - 48)) 0
def numberP (en : Int) (l : List Tok) : PR Int :=
  if (headT en l).text.toList == [45] then
    (skipP en ⟨#[45]⟩ l).bind fun _ l => (passP en (((headT en l).kind == 2) && (!((headT en l).text.toList == [48]))) l).bind fun t r => .ok (-1 * digV t.text.data.toList) r
  else (passP en ((headT en l).kind == 2) l).bind fun t r => .ok (1 * digV t.text.data.toList) r
/-- Which variable has a name, as far as names have come: the last one that does. -/
def nameAt : List ByteArray → ByteArray → Int × Bool
  | [], _ => (0, false)
  | n :: r, s => if (nameAt r s).2 then ((nameAt r s).1 + 1, true) else if n.data.toList = s.data.toList then (0, true) else (0, false)
def nameP (en : Int) (names : List ByteArray) (l : List Tok) : PR Int :=
  if (nameAt names (headT en l).text).2 then (passP en true l).bind fun _ r => .ok (nameAt names (headT en l).text).1 r
  else if nameB (headT en l).text then .bad (headT en l).place 5 else .bad (headT en l).place 1
theorem nameAt_next (s n : ByteArray) : ∀ l : List ByteArray, nameAt (l ++ [n]) s = if n.data.toList = s.data.toList then ((l.length : Int), true) else nameAt l s
  | [] => by
    simp [nameAt]
  | m :: l => by
    have ih := nameAt_next s n l
    simp only [List.cons_append, nameAt, ih]
    by_cases h : n.data.toList = s.data.toList
    · rw [if_pos h, if_pos h]
      simp
    · rw [if_neg h, if_neg h]
theorem nameAt_bound (s : ByteArray) : ∀ l : List ByteArray, 0 ≤ (nameAt l s).1 ∧ ((nameAt l s).2 = true → (nameAt l s).1 < l.length)
  | [] => by simp [nameAt]
  | m :: l => by
    have ih := nameAt_bound s l
    simp only [nameAt]
    split
    · rename_i h
      have := ih.2 h
      simp; omega
    · split
      · simp
      · simp
theorem nameAt_empty : ∀ l : List ByteArray, (∀ n ∈ l, n.data.toList ≠ []) → nameAt l ByteArray.empty = (0, false)
  | [], _ => rfl
  | n :: l, h => by
    have ih := nameAt_empty l fun m hm => h m (List.mem_cons_of_mem _ hm)
    simp only [nameAt, ih]
    rw [if_neg (by simp), if_neg (show ¬ n.data.toList = ByteArray.empty.data.toList from h n (List.mem_cons_self ..))]
/-- What comes behind a list's first thing. -/
def moreP {α : Type} (en : Int) (item : List Tok → PR α) : Nat → List α → List Tok → PR (List α)
  | 0, _, _ => .bad 0 0
  | f + 1, acc, l =>
    if (headT en l).text.toList == [44] then (skipP en ⟨#[44]⟩ l).bind fun _ l => (item l).bind fun x l => moreP en item f (acc ++ [x]) l
    else (skipP en ⟨#[93]⟩ l).bind fun _ l => .ok acc l
def readP {α : Type} (en : Int) (item : List Tok → PR α) (l : List Tok) : PR (List α) :=
  (skipP en ⟨#[91]⟩ l).bind fun _ l =>
    if (headT en l).text.toList == [93] then (skipP en ⟨#[93]⟩ l).bind fun _ l => .ok [] l
    else (item l).bind fun x l => moreP en item (l.length + 1) [x] l
/-- A part of the reader never gives tokens back. -/
def Eats {α : Type} (item : List Tok → PR α) : Prop := ∀ l x r, item l = .ok x r → r.length ≤ l.length
theorem PR.bind_ok {α β : Type} {p : PR α} {f : α → List Tok → PR β} {b : β} {r : List Tok} (h : p.bind f = .ok b r) : ∃ a q, p = .ok a q ∧ f a q = .ok b r := by
  cases p with
  | ok a q => exact ⟨a, q, rfl, h⟩
  | bad x e => cases h
theorem pass_eats (en : Int) (l : List Tok) (fits : Bool) (t : Tok) (r : List Tok) (h : passP en fits l = .ok t r) : r = l.tail := by
  unfold passP at h
  split at h
  · cases h; rfl
  · cases h
theorem eats_pass {α : Type} (en : Int) (g : List Tok → Bool) (f : Tok → List Tok → α) : Eats fun l => (passP en (g l) l).bind fun t r => .ok (f t r) r := by
  intro l x r h
  obtain ⟨t, q, h1, h2⟩ := PR.bind_ok h
  have := pass_eats en l _ t q h1
  cases h2
  rw [this]
  simp
theorem eats_name (en : Int) (names : List ByteArray) : Eats (nameP en names) := by
  intro l x r h
  unfold nameP at h
  split at h
  · obtain ⟨t, q, h1, h2⟩ := PR.bind_ok h
    have := pass_eats en l _ t q h1
    cases h2
    rw [this]; simp
  · split at h <;> cases h
theorem eats_skip (en : Int) (s : ByteArray) : Eats (skipP en s) := by
  intro l x r h
  rw [pass_eats en l _ x r h]; simp
theorem eats_number (en : Int) : Eats (numberP en) := by
  intro l x r h
  unfold numberP at h
  split at h
  · obtain ⟨t, q, h1, h2⟩ := PR.bind_ok h
    obtain ⟨t2, q2, h3, h4⟩ := PR.bind_ok h2
    have e1 := eats_skip en _ l t q h1
    have e2 := pass_eats en q _ t2 q2 h3
    cases h4
    rw [e2]; simp; omega
  · obtain ⟨t2, q2, h3, h4⟩ := PR.bind_ok h
    have e2 := pass_eats en l _ t2 q2 h3
    cases h4
    rw [e2]; simp
theorem eats_more {α : Type} (en : Int) (item : List Tok → PR α) (hi : Eats item) : ∀ (f : Nat) (acc : List α), Eats (moreP en item f acc)
  | 0, acc => fun l x r h => by cases h
  | f + 1, acc => fun l x r h => by
    unfold moreP at h
    split at h
    · obtain ⟨t, q, h1, h2⟩ := PR.bind_ok h
      obtain ⟨t2, q2, h3, h4⟩ := PR.bind_ok h2
      have e1 := eats_skip en _ l t q h1
      have e2 := hi q t2 q2 h3
      have e3 := eats_more en item hi f _ q2 x r h4
      omega
    · obtain ⟨t, q, h1, h2⟩ := PR.bind_ok h
      have e1 := eats_skip en _ l t q h1
      cases h2
      exact e1
theorem eats_read {α : Type} (en : Int) (item : List Tok → PR α) (hi : Eats item) : Eats (readP en item) := by
  intro l x r h
  unfold readP at h
  obtain ⟨t, q, h1, h2⟩ := PR.bind_ok h
  have e1 := eats_skip en _ l t q h1
  split at h2
  · obtain ⟨t2, q2, h3, h4⟩ := PR.bind_ok h2
    have e2 := eats_skip en _ q t2 q2 h3
    cases h4
    omega
  · obtain ⟨t2, q2, h3, h4⟩ := PR.bind_ok h2
    have e2 := hi q t2 q2 h3
    have e3 := eats_more en item hi _ _ q2 x r h4
    omega
def opWL : List ByteArray := [⟨#[]⟩, ⟨#[60, 61]⟩, ⟨#[62, 61]⟩, ⟨#[61, 61]⟩, ⟨#[33, 61]⟩]
def goalWL : List ByteArray := [⟨#[97, 110, 121]⟩, ⟨#[108, 101, 97, 115, 116]⟩, ⟨#[109, 111, 115, 116]⟩]
def conWL : List ByteArray := [⟨#[]⟩, ⟨#[108, 101]⟩, ⟨#[101, 113]⟩, ⟨#[110, 101]⟩, ⟨#[100, 105, 102, 102, 101, 114]⟩, ⟨#[101, 108, 101, 109, 101, 110, 116]⟩, ⟨#[116, 97, 98, 108, 101]⟩, ⟨#[116, 105, 109, 101, 115]⟩, ⟨#[109, 97, 120]⟩, ⟨#[99, 108, 97, 117, 115, 101]⟩, ⟨#[105, 102, 102]⟩]
def litP (en : Int) (names : List ByteArray) (l : List Tok) : PR MLit :=
  (nameP en names l).bind fun v l => (oneOfP en opWL l).bind fun op l => (numberP en l).bind fun n l => .ok ⟨v, op, n⟩ l
theorem eats_oneOf (en : Int) (texts : List ByteArray) : Eats (oneOfP en texts) := by
  intro l x r h
  unfold oneOfP at h
  obtain ⟨t, q, h1, h2⟩ := PR.bind_ok h
  have := pass_eats en l _ t q h1
  cases h2
  rw [this]; simp
theorem eats_lit (en : Int) (names : List ByteArray) : Eats (litP en names) := by
  intro l x r h
  unfold litP at h
  obtain ⟨t, q, h1, h2⟩ := PR.bind_ok h
  obtain ⟨t2, q2, h3, h4⟩ := PR.bind_ok h2
  obtain ⟨t3, q3, h5, h6⟩ := PR.bind_ok h4
  have e1 := eats_name en names l t q h1
  have e2 := eats_oneOf en opWL q t2 q2 h3
  have e3 := eats_number en q2 t3 q3 h5
  cases h6
  omega
def varW : ByteArray := ⟨#[118, 97, 114]⟩
def colW : ByteArray := ⟨#[58]⟩
def dotsW : ByteArray := ⟨#[46, 46]⟩
def semiW : ByteArray := ⟨#[59]⟩
def conW : ByteArray := ⟨#[99, 111, 110]⟩
def solveW : ByteArray := ⟨#[115, 111, 108, 118, 101]⟩
def newVarP (en : Int) (l : List Tok) : PR MVar :=
  (skipP en varW l).bind fun _ l => (newNameP en l).bind fun n l => (skipP en colW l).bind fun _ l => (numberP en l).bind fun lo l => (skipP en dotsW l).bind fun _ l => (numberP en l).bind fun hi l => (skipP en semiW l).bind fun _ l => .ok ⟨n, lo, hi⟩ l
def goalP (en : Int) (names : List ByteArray) (l : List Tok) : PR (Int × Int) :=
  (skipP en solveW l).bind fun _ l => (oneOfP en goalWL l).bind fun g l =>
    if g = 0 then (skipP en semiW l).bind fun _ l => .ok (g, 0) l
    else (nameP en names l).bind fun v l => (skipP en semiW l).bind fun _ l => .ok (g, v) l
/-- What a constraint of a kind has behind its word. -/
def bodyP (en : Int) (names : List ByteArray) (k : Int) (l : List Tok) : PR MCon :=
  if k = 1 ∨ k = 2 ∨ k = 3 then (readP en (numberP en) l).bind fun cs l => (readP en (nameP en names) l).bind fun vs l => (numberP en l).bind fun n l => .ok ⟨k, vs, cs, n, [], []⟩ l
  else if k = 4 then (readP en (nameP en names) l).bind fun vs l => .ok ⟨k, vs, [], 0, [], []⟩ l
  else if k = 5 then (readP en (numberP en) l).bind fun cs l => (nameP en names l).bind fun a l => (nameP en names l).bind fun b l => .ok ⟨k, [a, b], cs, 0, [], []⟩ l
  else if k = 6 then (readP en (nameP en names) l).bind fun vs l => (readP en (readP en (numberP en)) l).bind fun rs l => .ok ⟨k, vs, [], 0, rs, []⟩ l
  else if k = 7 then (nameP en names l).bind fun a l => (nameP en names l).bind fun b l => (nameP en names l).bind fun c l => .ok ⟨k, [a, b, c], [], 0, [], []⟩ l
  else if k = 8 then (nameP en names l).bind fun a l => (readP en (nameP en names) l).bind fun vs l => .ok ⟨k, [a] ++ vs, [], 0, [], []⟩ l
  else if k = 9 then (readP en (litP en names) l).bind fun ls l => .ok ⟨k, [], [], 0, [], ls⟩ l
  else if k = 10 then (nameP en names l).bind fun a l => (litP en names l).bind fun t l => .ok ⟨k, [a], [], 0, [], [t]⟩ l
  else .ok ⟨k, [], [], 0, [], []⟩ l
def conP (en : Int) (names : List ByteArray) (l : List Tok) : PR MCon :=
  (skipP en conW l).bind fun _ l => (oneOfP en conWL l).bind fun k l => (bodyP en names k l).bind fun c l => (skipP en semiW l).bind fun _ l => .ok c l
def varsP (en : Int) : Nat → List MVar → List Tok → PR (List MVar)
  | 0, _, _ => .bad 0 0
  | f + 1, acc, l => if (headT en l).text.toList == [118, 97, 114] then (newVarP en l).bind fun v l => varsP en f (acc ++ [v]) l else .ok acc l
def consP (en : Int) (names : List ByteArray) : Nat → List MCon → List Tok → PR (List MCon)
  | 0, _, _ => .bad 0 0
  | f + 1, acc, l => if (headT en l).text.toList == [99, 111, 110] then (conP en names l).bind fun c l => consP en names f (acc ++ [c]) l else .ok acc l
def modelP (en : Int) (l : List Tok) : PR Mod :=
  (varsP en (l.length + 1) [] l).bind fun vs l => (consP en (vs.map MVar.name) (l.length + 1) [] l).bind fun cs l => (goalP en (vs.map MVar.name) l).bind fun g l =>
    if 0 < l.length then .bad (headT en l).place 1 else .ok ⟨vs, cs, g.1, g.2⟩ l
end Go.Proofs.YtdjbejlbmaiocagGreatDoor
/-
  WALKS: package text: the reader: ahead, giveUp, pass, skip.
-/
namespace Go.Proofs.YtdjbejlbmaiocagGreatDoor
open Go.RowKit

/-- Tokens that lie below a block. -/
def TArg (N : Nat) (w : World) (v : Value) (l : List Tok) : Prop :=
  ∃ a c, v = .slice a l.length c ∧ (l.length ≤ c ∧ c ≤ maxLen) ∧ (l.length ≤ 4000 ∧ ∀ t ∈ l, TokOk t) ∧ ∀ (i : Nat) (t : Tok), l[i]? = some t → ∃ b off, a = some ⟨b, off, none⟩ ∧ b < N ∧ w.cell? ⟨b, off + i * 3, none⟩ = some (.int .i64 t.kind) ∧ w.cell? ⟨b, off + i * 3 + 1, none⟩ = some (.int .i64 t.place) ∧ w.cell? ⟨b, off + i * 3 + 2, none⟩ = some (.string t.text)
/-- A reader in memory: its block, its tokens; its map is told of elsewhere. -/
def Rd (N R M : Nat) (en : Int) (w : World) (l : List Tok) : Prop :=
  (N ≤ R ∧ N ≤ w.heap.size ∧ M ≠ R) ∧ ∃ v, w.heap[R]? = some (.cells #[v, .int .i64 en, .map (some M)] 177) ∧ TArg N w v l

theorem TArg.old {N : Nat} {w w' : World} {v : Value} {l : List Tok} (h : TArg N w v l) (hc : ∀ p : Addr, p.block < N → w'.cell? p = w.cell? p) : TArg N w' v l := by
  obtain ⟨a, c, hv, hm, ht, hr⟩ := h
  refine ⟨a, c, hv, hm, ht, fun i t hi => ?_⟩
  obtain ⟨b, off, ha, hlt, c0, c1, c2⟩ := hr i t hi
  exact ⟨b, off, ha, hlt, (hc ⟨b, off + i * 3, none⟩ hlt).trans c0, (hc ⟨b, off + i * 3 + 1, none⟩ hlt).trans c1, (hc ⟨b, off + i * 3 + 2, none⟩ hlt).trans c2⟩
theorem Rd.len {N R M : Nat} {en : Int} {w : World} {l : List Tok} (h : Rd N R M en w l) : l.length ≤ 4000 := by
  obtain ⟨_, v, _, _, _, _, _, ht, _⟩ := h
  exact ht.1
theorem Rd.set {N R M : Nat} {en : Int} {w : World} {l : List Tok} (h : Rd N R M en w l) {p : Addr} (hp : p.block ≠ R) (hN : N ≤ p.block) (u : Value) : Rd N R M en (w.setCell p u) l := by
  obtain ⟨⟨h1, h2, h3⟩, v, hR, ht⟩ := h
  exact ⟨⟨h1, by simpa using h2, h3⟩, v, (Below.heap_setCell _ _ _ _ (Ne.symm hp)).trans hR, ht.old fun q hq => World.cell?_of_block (Below.heap_setCell _ _ _ _ (by omega))⟩
theorem Rd.put {N R M : Nat} {en : Int} {w : World} {l r : List Tok} {v : Value} (h : Rd N R M en w l) (hv : TArg N w v r) : Rd N R M en (w.setCell ⟨R, 0, none⟩ v) r := by
  obtain ⟨⟨h1, h2, h3⟩, v0, hR, _⟩ := h
  refine ⟨⟨h1, by simpa using h2, h3⟩, v, ?_, hv.old fun q hq => World.cell?_of_block (Below.heap_setCell _ _ _ _ (by simp only; omega))⟩
  rw [heap_setCell_same w R 0 _ _ v hR]
  rfl
def tokA (t : Tok) : Value := .agg #[.int .i64 t.kind, .int .i64 t.place, .string t.text]
set_option maxHeartbeats 800000 in
set_option maxRecDepth 100000 in
theorem ahead_any (N R M : Nat) (en : Int) (w : World) (l : List Tok) (h : Rd N R M en w l) :
    Calls Tryz.prog 175 #[.pointer (some ⟨R, 0, none⟩)] w fun e w' => e = .returned (tokA (headT en l)) ∧ Below w.heap.size w w' := by
  obtain ⟨⟨_, hNw, _⟩, v, hR, a, c, rfl, hm, _, hr⟩ := h
  have c0 : w.cell? ⟨R, 0, none⟩ = some (.slice a l.length c) := by rw [Lib.cell_of_heap hR]; rfl
  have c1 : w.cell? ⟨R, 1, none⟩ = some (.int .i64 en) := by rw [Lib.cell_of_heap hR]; rfl
  have hRl : R < w.heap.size := (Array.getElem?_eq_some_iff.1 hR).1
  unfold maxLen at hm
  obtain ⟨hm1, hm⟩ := hm
  cases l with
  | nil =>
    clear hr hR
    go_enter Tryz.func175, Tryz.ntmps175
    go_wp2
    refine bodyPost_ret (by simp [results, Tryz.results175, go_sem, *]; try rfl) rfl ⟨rfl, ?_⟩
    exact below_alloc _ _
  | cons t r =>
    obtain ⟨b, off, rfl, hb, g0, g1, g2⟩ := hr 0 t rfl
    simp only [Nat.zero_mul, Nat.add_zero] at g0 g1 g2
    have hbw : b < w.heap.size := by omega
    have hlen : ((t :: r).length : Int) = (r.length : Int) + 1 := by simp
    clear hr hR
    go_enter Tryz.func175, Tryz.ntmps175
    go_wp2
    refine bodyPost_ret (by simp [results, Tryz.results175, go_sem, *]; try rfl) rfl ⟨rfl, ?_⟩
    exact below_alloc _ _

theorem tokF0 (t : Tok) (w : World) : Sem.run Tryz.prog (Instr.field 158 (.agg #[.int .i64 t.kind, .int .i64 t.place, .string t.text]) 0) w = .ok (.int .i64 t.kind) w := by kernel_rfl
theorem tokF1 (t : Tok) (w : World) : Sem.run Tryz.prog (Instr.field 158 (.agg #[.int .i64 t.kind, .int .i64 t.place, .string t.text]) 1) w = .ok (.int .i64 t.place) w := by kernel_rfl
theorem tokF2 (t : Tok) (w : World) : Sem.run Tryz.prog (Instr.field 158 (.agg #[.int .i64 t.kind, .int .i64 t.place, .string t.text]) 2) w = .ok (.string t.text) w := by kernel_rfl
set_option maxHeartbeats 800000 in
set_option maxRecDepth 100000 in
theorem giveup_any (N R M : Nat) (en er : Int) (w : World) (l : List Tok) (h : Rd N R M en w l) :
    Calls Tryz.prog 179 #[.pointer (some ⟨R, 0, none⟩), .int .i64 er] w fun e w' => e = .panicked [{ v := .iface 172 (.agg #[.int .i64 (headT en l).place, .int .i64 er]), recovered := false }] ∧ Below w.heap.size w w' := by
  have hf1 := tokF1 (headT en l)
  go_enter Tryz.func179, Tryz.ntmps179
  go_wp2_with fail
  refine (ahead_any N R M en _ l h).mono ?_
  rintro e w1 ⟨rfl, hb1⟩
  unfold tokA
  go_wp2
  exact ⟨rfl, rfl, hb1⟩

/-- How a part of the reader ends. -/
def PostR {α : Type} (p : PR α) (G : α → Value → World → Prop) (N R M : Nat) (en : Int) (X : Nat → Prop) (w : World) (e : Ending) (w' : World) : Prop :=
  match p with
  | .ok a r => ∃ v, e = .returned v ∧ G a v w' ∧ Rd N R M en w' r ∧ Fr X w w'
  | .bad x er => e = .panicked [{ v := .iface 172 (.agg #[.int .i64 x, .int .i64 er]), recovered := false }] ∧ Fr X w w'
theorem Rd.below {N R M : Nat} {en : Int} {w w' : World} {l : List Tok} (h : Rd N R M en w l) (hb : Below w.heap.size w w') : Rd N R M en w' l := by
  obtain ⟨⟨h1, h2, h3⟩, v, hR, a, c, hv, hm, ht, hr⟩ := h
  have hRl : R < w.heap.size := (Array.getElem?_eq_some_iff.1 hR).1
  refine ⟨⟨h1, Nat.le_trans h2 hb.size, h3⟩, v, (hb.block R hRl).trans hR, a, c, hv, hm, ht, fun i t hi => ?_⟩
  obtain ⟨b, off, ha, hlt, c0, c1, c2⟩ := hr i t hi
  have hbw : b < w.heap.size := by omega
  exact ⟨b, off, ha, hlt, (hb.cell (p := ⟨b, off + i * 3, none⟩) hbw).trans c0, (hb.cell (p := ⟨b, off + i * 3 + 1, none⟩) hbw).trans c1, (hb.cell (p := ⟨b, off + i * 3 + 2, none⟩) hbw).trans c2⟩

theorem pass_rd {N R M B : Nat} {en : Int} {w1 : World} {l r : List Tok} {v x y z : Value} {o : Obj} (h : Rd N R M en w1 l) (hv : TArg N w1 v r) (hne : B ≠ R) (hN : N ≤ B) :
    Rd N R M en (((((w1.setCell ⟨R, 0, none⟩ v).setCell ⟨B, 0, none⟩ x).setCell ⟨B, 1, none⟩ y).setCell ⟨B, 2, none⟩ z).alloc o) r :=
  ((((h.put hv).set (p := ⟨B, 0, none⟩) hne hN _).set (p := ⟨B, 1, none⟩) hne hN _).set (p := ⟨B, 2, none⟩) hne hN _).below (below_alloc _ _)
theorem pass_fr {R : Nat} {w w1 : World} {v x y z : Value} {o : Obj} (h : Below w.heap.size w w1) :
    Fr (fun k => k = R) w (((((w1.setCell ⟨R, 0, none⟩ v).setCell ⟨w.heap.size, 0, none⟩ x).setCell ⟨w.heap.size, 1, none⟩ y).setCell ⟨w.heap.size, 2, none⟩ z).alloc o) :=
  (((((Fr.below (X := fun k => k = R) h).setX (p := ⟨R, 0, none⟩) rfl _).setNew (p := ⟨w.heap.size, 0, none⟩) (Nat.le_refl _) _).setNew (p := ⟨w.heap.size, 1, none⟩) (Nat.le_refl _) _).setNew (p := ⟨w.heap.size, 2, none⟩) (Nat.le_refl _) _).alloc _
set_option maxHeartbeats 800000 in
set_option maxRecDepth 100000 in
theorem pass_any (N R M : Nat) (en : Int) (fits : Bool) (w : World) (l : List Tok) (h : Rd N R M en w l) (hf : fits = true → l ≠ []) :
    Calls Tryz.prog 272 #[.pointer (some ⟨R, 0, none⟩), .bool fits] w (PostR (passP en fits l) (fun t v _ => v = tokA t) N R M en (fun k => k = R) w) := by
  cases fits
  · have HB : Hid (Rd N R M en w l) := h
    go_enter Tryz.func272, Tryz.ntmps272
    go_wp2_with fail
    refine (giveup_any N R M en 1 _ l (HB.out.below (below_alloc _ _))).mono ?_
    rintro e w1 ⟨rfl, hb1⟩
    go_wp2
    exact ⟨rfl, rfl, Fr.below ((below_alloc _ _).trans (hb1.mono (by simp)))⟩
  · have HB : Hid (Rd N R M en w l) := h
    obtain ⟨t, r, rfl⟩ : ∃ t r, l = t :: r := by
      cases l with
      | nil => exact absurd rfl (hf rfl)
      | cons t r => exact ⟨t, r, rfl⟩
    go_enter Tryz.func272, Tryz.ntmps272
    go_wp2_with fail
    refine (ahead_any N R M en _ (t :: r) (HB.out.below (below_alloc _ _))).mono ?_
    rintro e w1 ⟨rfl, hb1⟩
    have HR1 : Hid (Rd N R M en w1 (t :: r)) := (HB.out.below (below_alloc _ _)).below hb1
    obtain ⟨⟨_, hNw, _⟩, v, hR, a, c, rfl, hm, ht, hr⟩ := HR1.out
    have c0 : w1.cell? ⟨R, 0, none⟩ = some (.slice a (t :: r).length c) := by rw [Lib.cell_of_heap hR]; rfl
    have hRl : R < w1.heap.size := (Array.getElem?_eq_some_iff.1 hR).1
    have z0 : w1.frozen? ⟨R, 0, none⟩ = false := by unfold World.frozen?; simp only [hR]; simp
    obtain ⟨b, off, rfl, hb, _, _, _⟩ := hr 0 t rfl
    unfold maxLen at hm
    obtain ⟨hm1, hm⟩ := hm
    have HB1 : Hid (Below w.heap.size w w1) := (below_alloc _ _).trans (hb1.mono (by simp))
    have HW : w1.heap[w.heap.size]? = some (.cells #[.int .i64 0, .int .i64 0, .string ⟨#[]⟩] 158) := (hb1.block _ (by simp)).trans (by show (w.heap.push _)[w.heap.size]? = _; simp)
    have d0 : w1.cell? ⟨w.heap.size, 0, none⟩ = some (.int .i64 0) := by rw [Lib.cell_of_heap HW]; rfl
    have d1 : w1.cell? ⟨w.heap.size, 1, none⟩ = some (.int .i64 0) := by rw [Lib.cell_of_heap HW]; rfl
    have d2 : w1.cell? ⟨w.heap.size, 2, none⟩ = some (.string ⟨#[]⟩) := by rw [Lib.cell_of_heap HW]; rfl
    have y0 : w1.frozen? ⟨w.heap.size, 0, none⟩ = false := by unfold World.frozen?; simp only [HW]; simp
    have y1 : w1.frozen? ⟨w.heap.size, 1, none⟩ = false := by unfold World.frozen?; simp only [HW]; simp
    have y2 : w1.frozen? ⟨w.heap.size, 2, none⟩ = false := by unfold World.frozen?; simp only [HW]; simp
    have hsw : w.heap.size < w1.heap.size := (Array.getElem?_eq_some_iff.1 HW).1
    have hN0 : N ≤ w.heap.size := HB.out.1.2.1
    have hne : w.heap.size ≠ R := by obtain ⟨_, _, hR0, _⟩ := HB.out; have := (Array.getElem?_eq_some_iff.1 hR0).1; omega
    unfold tokA
    simp only [headT]
    clear hr hR ht hb1 hf h HW
    go_wp2
    · have hr0 : r = [] := by
        rcases r with _ | ⟨x, r⟩
        · rfl
        · simp at hm1; omega
      have HT : TArg N w1 (.slice (some ⟨b, off, none⟩) r.length 0) r := by
        subst hr0
        exact ⟨_, _, rfl, ⟨Nat.le_refl _, Nat.zero_le _⟩, ⟨by simp, fun t ht => by (cases ht)⟩, fun i t hi => by (simp at hi)⟩
      refine bodyPost_ret (by simp [results, Tryz.results272, go_sem, *]; try rfl) rfl ?_
      exact ⟨_, rfl, rfl, pass_rd HR1.out HT hne hN0, pass_fr HB1.out⟩
    · have HT : TArg N w1 (.slice (some ⟨b, off + 3, none⟩) r.length (c - 1)) r := by
        obtain ⟨_, v2, hR2, a2, c2, hv2, hm2, ht2, hr2⟩ := HR1.out
        have hv3 : v2 = .slice (some ⟨b, off, none⟩) (t :: r).length c := by
          have h1 := c0
          rw [Lib.cell_of_heap hR2] at h1
          exact Option.some.inj h1
        rw [hv2] at hv3
        simp only [Value.slice.injEq] at hv3
        obtain ⟨rfl, _, rfl⟩ := hv3
        refine ⟨_, _, rfl, ⟨by simp at hm1; omega, by unfold maxLen; omega⟩, ⟨by have := ht2.1; simp at this; omega, fun x hx => ht2.2 x (List.mem_cons_of_mem _ hx)⟩, fun i x hi => ?_⟩
        obtain ⟨b', off', ha, hlt, q0, q1, q2⟩ := hr2 (i + 1) x (by simpa using hi)
        simp only [Option.some.injEq, Addr.mk.injEq, and_true] at ha
        obtain ⟨rfl, rfl⟩ := ha
        refine ⟨_, _, rfl, hlt, ?_, ?_, ?_⟩
        · rw [show off + 3 + i * 3 = off + (i + 1) * 3 by omega]; exact q0
        · rw [show off + 3 + i * 3 = off + (i + 1) * 3 by omega]; exact q1
        · rw [show off + 3 + i * 3 = off + (i + 1) * 3 by omega]; exact q2
      refine bodyPost_ret (by simp [results, Tryz.results272, go_sem, *]; try rfl) rfl ?_
      exact ⟨_, rfl, rfl, pass_rd HR1.out HT hne hN0, pass_fr HB1.out⟩
end Go.Proofs.YtdjbejlbmaiocagGreatDoor
/-
  WALKS: package text: the reader: skip, isName, newName, oneOf.
-/
namespace Go.Proofs.YtdjbejlbmaiocagGreatDoor
open Go.RowKit

/-- No text is the empty one. -/
def solid (s : ByteArray) : Prop := (ByteArray.empty.toList == s.toList) = false
theorem head_some (en : Int) (l : List Tok) (s : ByteArray) (hs : solid s) (h : ((headT en l).text.toList == s.toList) = true) : l ≠ [] := by
  intro hl
  subst hl
  have h2 : (ByteArray.empty.toList == s.toList) = true := h
  rw [hs] at h2
  cases h2
theorem PostR.fr {α : Type} {p : PR α} {G : α → Value → World → Prop} {N R M : Nat} {en : Int} {X : Nat → Prop} {w0 w w' : World} {e : Ending} (h0 : Fr X w0 w) (h : PostR p G N R M en X w e w') : PostR p G N R M en X w0 e w' := by
  unfold PostR at *
  cases p with
  | ok a r => obtain ⟨v, h1, h2, h3, h4⟩ := h; exact ⟨v, h1, h2, h3, h0.trans h4⟩
  | bad x er => exact ⟨h.1, h0.trans h.2⟩

set_option maxHeartbeats 800000 in
set_option maxRecDepth 100000 in
theorem rskip_any (N R M : Nat) (en : Int) (s : ByteArray) (hs : solid s) (w : World) (l : List Tok) (h : Rd N R M en w l) :
    Calls Tryz.prog 236 #[.pointer (some ⟨R, 0, none⟩), .string s] w (PostR (skipP en s l) (fun _ v _ => v = .tuple #[]) N R M en (fun k => k = R) w) := by
  have hf2 := tokF2 (headT en l)
  have HB : Hid (Rd N R M en w l) := h
  have HS : Hid (solid s) := hs
  obtain ⟨B, hB⟩ : ∃ B, ((headT en l).text.toList == s.toList) = B := ⟨_, rfl⟩
  have HBB : Hid (((headT en l).text.toList == s.toList) = B) := hB
  have HP : Hid (skipP en s l = passP en B l) := by show _ = _; unfold skipP; rw [hB]
  rw [HP.out]
  clear hs hB
  go_enter Tryz.func236, Tryz.ntmps236
  go_wp2_with fail
  refine (ahead_any N R M en _ l HB.out).mono ?_
  rintro e w1 ⟨rfl, hb1⟩
  have HR1 : Hid (Rd N R M en w1 l) := HB.out.below hb1
  have HF1 : Hid (Fr (fun k => k = R) w w1) := Fr.below hb1
  unfold tokA
  go_wp2_with fail
  rw [HBB.out]
  refine (pass_any N R M en B w1 l HR1.out (fun hb => head_some en l s HS.out (HBB.out.trans hb))).mono ?_
  intro e w2 hp
  have HP2 : Hid (PostR (passP en B l) (fun t v _ => v = tokA t) N R M en (fun k => k = R) w e w2) := hp.fr HF1.out
  clear hp hb1 h
  cases B
  · obtain ⟨rfl, hfr⟩ := HP2.out
    go_wp2
    exact ⟨rfl, rfl, hfr⟩
  · obtain ⟨v, rfl, rfl, hrd, hfr⟩ := HP2.out
    unfold tokA
    go_wp2
    go_end0
    exact ⟨_, rfl, rfl, hrd, hfr⟩
end Go.Proofs.YtdjbejlbmaiocagGreatDoor
/-
  WALKS: package text: the reader: isName, newName, oneOf; the words.
-/
namespace Go.Proofs.YtdjbejlbmaiocagGreatDoor
open Go.RowKit

theorem one_var_arg (w : World) (s : ByteArray) (hs : s.size ≤ maxLen) : MArg (w.alloc (.cells #[.string s, .int .i64 0, .int .i64 0] 71)) (.slice (some ⟨w.heap.size, 0, none⟩) 1 1) (.slice none 0 0) ⟨[⟨s, 0, 0⟩], [], 0, 0⟩ := by
  refine ⟨⟨_, 1, rfl, ⟨Nat.le_refl _, by unfold maxLen; omega⟩, fun i t ht => ?_⟩, ⟨none, 0, rfl, ⟨Nat.le_refl _, Nat.zero_le _⟩, fun i t ht => by simp at ht⟩⟩
  match i, ht with
  | 0, ht =>
    cases ht
    exact ⟨hs, _, 0, rfl, by simp, World.cell?_alloc_at _ _ _ 0 (by simp), World.cell?_alloc_at _ _ _ 1 (by simp), World.cell?_alloc_at _ _ _ 2 (by simp)⟩

set_option maxHeartbeats 800000 in
set_option maxRecDepth 100000 in
theorem risname_any (s : ByteArray) (hs : s.size ≤ maxLen) (w : World) :
    Calls Tryz.prog 273 #[.string s] w fun e w' => e = .returned (.bool (nameB s)) ∧ Below w.heap.size w w' := by
  obtain ⟨er, her⟩ : ∃ er, checkM ⟨[⟨s, 0, 0⟩], [], 0, 0⟩ = er := ⟨_, rfl⟩
  have HER : Hid (checkM ⟨[⟨s, 0, 0⟩], [], 0, 0⟩ = er) := her
  have HN : Hid (nameB s = (er == 0)) := by show _ = _; unfold nameB; rw [her]
  rw [HN.out]
  have HA : Hid (MArg (w.alloc (.cells #[.string s, .int .i64 0, .int .i64 0] 71)) (.slice (some ⟨w.heap.size, 0, none⟩) 1 1) (.slice none 0 0) ⟨[⟨s, 0, 0⟩], [], 0, 0⟩) := one_var_arg w s hs
  clear her hs
  go_enter Tryz.func273, Tryz.ntmps273
  go_wp2_with fail
  refine (show Calls Tryz.prog 40 #[.agg #[.slice (some ⟨w.heap.size, 0, none⟩) 1 1, .slice none 0 0, .int .i64 0, .int .i64 0]] _ _ from check_model ⟨[⟨s, 0, 0⟩], [], 0, 0⟩ _ _ _ HA.out).mono ?_
  rintro e w1 ⟨rfl, hb1⟩
  rw [HER.out]
  have hb2 : Below w.heap.size w w1 := (below_alloc _ _).trans (hb1.mono (by simp))
  clear hb1
  go_wp2
  go_ret
  exact ⟨rfl, hb2⟩
theorem name_empty : nameB ByteArray.empty = false := by kernel_rfl
theorem head_size {N R M : Nat} {en : Int} {w : World} {l : List Tok} (h : Rd N R M en w l) : (headT en l).text.size ≤ maxLen := by
  obtain ⟨_, v, _, _, _, _, _, ht, _⟩ := h
  cases l with
  | nil => show ByteArray.empty.size ≤ maxLen; exact Nat.zero_le _
  | cons t r => have := (ht.2 t (List.mem_cons_self ..)).1; show t.text.size ≤ maxLen; unfold maxLen; omega

set_option maxHeartbeats 800000 in
set_option maxRecDepth 100000 in
theorem newname_any (N R M : Nat) (en : Int) (w : World) (l : List Tok) (h : Rd N R M en w l) :
    Calls Tryz.prog 237 #[.pointer (some ⟨R, 0, none⟩)] w (PostR (newNameP en l) (fun s v _ => v = .string s ∧ s.size ≤ maxLen) N R M en (fun k => k = R) w) := by
  have hf2 := tokF2 (headT en l)
  have HB : Hid (Rd N R M en w l) := h
  have hsz := head_size h
  obtain ⟨B, hB⟩ : ∃ B, nameB (headT en l).text = B := ⟨_, rfl⟩
  have HBB : Hid (nameB (headT en l).text = B) := hB
  have HP : Hid (newNameP en l = (passP en B l).bind fun t r => .ok t.text r) := by show _ = _; unfold newNameP; rw [hB]
  have HL : Hid (B = true → l ≠ []) := by
    intro hb hl
    subst hl
    rw [hb] at hB
    have h2 : nameB ByteArray.empty = true := hB
    rw [name_empty] at h2; cases h2
  have HSZ : Hid ((headT en l).text.size ≤ maxLen) := hsz
  rw [HP.out]
  clear hB hsz h
  go_enter Tryz.func237, Tryz.ntmps237
  go_wp2_with fail
  refine (ahead_any N R M en _ l HB.out).mono ?_
  rintro e w1 ⟨rfl, hb1⟩
  have HR1 : Hid (Rd N R M en w1 l) := HB.out.below hb1
  have HF1 : Hid (Fr (fun k => k = R) w w1) := Fr.below hb1
  unfold tokA
  clear hb1
  go_wp2_with fail
  refine (risname_any _ HSZ.out _).mono ?_
  rintro e w2 ⟨rfl, hb2⟩
  rw [HBB.out]
  have HR2 : Hid (Rd N R M en w2 l) := HR1.out.below hb2
  have HF2 : Hid (Fr (fun k => k = R) w w2) := HF1.out.trans (Fr.below hb2)
  clear hb2 hf2
  go_wp2_with fail
  refine (pass_any N R M en B w2 l HR2.out HL.out).mono ?_
  intro e w3 hp
  have HP2 : Hid (PostR (passP en B l) (fun t v _ => v = tokA t) N R M en (fun k => k = R) w e w3) := hp.fr HF2.out
  clear hp
  cases B
  · obtain ⟨rfl, hfr⟩ := HP2.out
    go_wp2
    exact ⟨rfl, rfl, hfr⟩
  · obtain ⟨v, rfl, rfl, hrd, hfr⟩ := HP2.out
    have hf2 := tokF2 (headT en l)
    unfold tokA
    go_wp2
    go_ret
    exact ⟨_, rfl, ⟨rfl, HSZ.out⟩, hrd, hfr⟩

/-- A list of strings. -/
def SArg (w : World) (v : Value) (l : List ByteArray) : Prop :=
  ∃ a c, v = .slice a l.length c ∧ (l.length ≤ c ∧ c ≤ maxLen) ∧ ∀ (i : Nat) (z : ByteArray), l[i]? = some z → ∃ b off, a = some ⟨b, off, none⟩ ∧ b < w.heap.size ∧ w.cell? ⟨b, off + i, none⟩ = some (.string z)
theorem SArg.below {w w' : World} {v : Value} {l : List ByteArray} (hb : Below w.heap.size w w') (h : SArg w v l) : SArg w' v l := by
  obtain ⟨a, c, hv, hm, hr⟩ := h
  refine ⟨a, c, hv, hm, fun i z hz => ?_⟩
  obtain ⟨b, off, ha, hlt, hc⟩ := hr i z hz
  exact ⟨b, off, ha, Nat.lt_of_lt_of_le hlt hb.size, (hb.cell (p := ⟨b, off + i, none⟩) hlt).trans hc⟩
theorem idx_hit (l : List ByteArray) (n : ByteArray) (m : Nat) (z : ByteArray) (hz : l[m]? = some z) (h : (n.toList == z.toList) = true) : idxA (l.drop m) n m = (m : Int) := by
  have hm : m < l.length := (List.getElem?_eq_some_iff.1 hz).1
  rw [List.drop_eq_getElem_cons hm]
  have : l[m] = z := by rw [List.getElem?_eq_getElem hm] at hz; exact Option.some.inj hz
  rw [this, idxA, h, if_pos rfl]
theorem idx_miss (l : List ByteArray) (n : ByteArray) (m : Nat) (z : ByteArray) (hz : l[m]? = some z) (h : (n.toList == z.toList) = false) : idxA (l.drop m) n m = idxA (l.drop (m + 1)) n (m + 1) := by
  have hm : m < l.length := (List.getElem?_eq_some_iff.1 hz).1
  rw [List.drop_eq_getElem_cons hm]
  have : l[m] = z := by rw [List.getElem?_eq_getElem hm] at hz; exact Option.some.inj hz
  rw [this, idxA, h, if_neg (by simp)]

set_option maxHeartbeats 400000 in
set_option maxRecDepth 100000 in
theorem index_strs (l : List ByteArray) (v : Value) (n : ByteArray) (w : World) (hv : SArg w v l) :
    Calls Tryz.prog 275 #[v, .string n] w fun e w' => e = .returned (.int .i64 (idxA l n 0)) ∧ w' = w := by
  obtain ⟨a, c, rfl, hm, hr⟩ := hv
  have HV : Hid (∀ (i : Nat) (z : ByteArray), l[i]? = some z → ∃ b off, a = some ⟨b, off, none⟩ ∧ b < w.heap.size ∧ w.cell? ⟨b, off + i, none⟩ = some (.string z)) := hr
  obtain ⟨R, hR⟩ : ∃ R, idxA l n 0 = R := ⟨_, rfl⟩
  rw [hR]
  have HR : Hid (idxA l n 0 = R) := hR
  unfold maxLen at hm
  obtain ⟨hm1, hm⟩ := hm
  clear hr hR
  go_enter Tryz.func275, Tryz.ntmps275
  go_wp2_with fail
  go_loop [8] (fun i => ∃ m : Nat, m ≤ l.length ∧ i = .int .i64 m ∧ Hid (idxA (l.drop m) n m = R)) (fun i => l.length - (intOf i).toNat)
  case atStart => exact ⟨0, by omega, rfl, HR⟩
  case round =>
    obtain ⟨m, hml, rfl, hall⟩ := hrel
    by_cases hlt : m < l.length
    · obtain ⟨z, hz⟩ : ∃ z, l[m]? = some z := ⟨l[m], by simp [hlt]⟩
      obtain ⟨b, off, ha, hb, hc⟩ := HV.out m z hz
      have HZ : Hid (l[m]? = some z) := hz
      subst ha
      clear hz
      cases hq : (n.toList == z.toList)
      · have HN : Hid (idxA (l.drop (m + 1)) n (m + 1) = R) := by show _ = _; rw [← idx_miss l n m z HZ.out hq]; exact hall.out
        go_wp2
        go_round
        case rel => exact ⟨m + 1, by omega, by go_num, HN⟩
        case measure => simp [intOf]; omega
      · have HN : Hid (R = (m : Int)) := by rw [← hall.out]; exact idx_hit l n m z HZ.out hq
        go_wp2
        go_ret
        exact ⟨ret_int HN.out.symm, rfl⟩
    · have HN : Hid (R = -1) := by
        have h := hall.out
        rw [List.drop_eq_nil_of_le (by omega)] at h
        exact h.symm
      go_wp2
      go_ret
      exact ⟨ret_int HN.out.symm, rfl⟩

set_option maxHeartbeats 800000 in
set_option maxRecDepth 100000 in
theorem oneof_any (N R M : Nat) (en : Int) (texts : List ByteArray) (v : Value) (w : World) (l : List Tok) (h : Rd N R M en w l) (hv : SArg w v texts) :
    Calls Tryz.prog 239 #[.pointer (some ⟨R, 0, none⟩), v] w (PostR (oneOfP en texts l) (fun i v _ => v = .int .i64 i) N R M en (fun k => k = R) w) := by
  have hf0 := tokF0 (headT en l)
  have hf2 := tokF2 (headT en l)
  have HB : Hid (Rd N R M en w l) := h
  have HV : Hid (∀ w', Below w.heap.size w w' → SArg w' v texts) := fun w' hb => SArg.below hb hv
  obtain ⟨a, c, rfl, _, _⟩ := hv
  obtain ⟨I, hI⟩ : ∃ I, idxA texts (headT en l).text 0 = I := ⟨_, rfl⟩
  have HI : Hid (idxA texts (headT en l).text 0 = I) := hI
  obtain ⟨P, hP⟩ : ∃ P, oneOfP en texts l = P := ⟨_, rfl⟩
  have HP : Hid (P = (passP en (decide (0 ≤ I) && ((headT en l).kind != 0)) l).bind fun _ r => .ok I r) := by show _ = _; rw [← hP]; unfold oneOfP; rw [hI]
  rw [hP]
  have HL : Hid (((headT en l).kind != 0) = true → l ≠ []) := by
    intro hb hl
    subst hl
    have h2 : ((0 : Int) != 0) = true := hb
    simp at h2
  clear hI h hP
  go_enter Tryz.func239, Tryz.ntmps239
  go_wp2_with fail
  refine (ahead_any N R M en _ l HB.out).mono ?_
  rintro e w1 ⟨rfl, hb1⟩
  have HR1 : Hid (Rd N R M en w1 l) := HB.out.below hb1
  have HF1 : Hid (Fr (fun k => k = R) w w1) := Fr.below hb1
  have HV1 : Hid (SArg w1 (.slice a texts.length c) texts) := HV.out _ hb1
  unfold tokA
  clear hb1
  go_wp2_with fail
  refine (index_strs texts _ _ _ HV1.out).mono ?_
  rintro e w1 ⟨rfl, rfl⟩
  rw [HI.out]
  by_cases h0 : 0 ≤ I
  · have HD : Hid (decide (0 ≤ I) = true) := decide_eq_true h0
    obtain ⟨K, hK⟩ : ∃ K, ((headT en l).kind != 0) = K := ⟨_, rfl⟩
    have HK : Hid (((headT en l).kind != 0) = K) := hK
    have HP2 : Hid (P = (passP en K l).bind fun _ r => .ok I r) := by show _ = _; rw [HP.out, HD.out, hK]; rfl
    clear hK
    go_wp2_with fail
    refine (ahead_any N R M en _ l HR1.out).mono ?_
    rintro e w2 ⟨rfl, hb2⟩
    have HR2 : Hid (Rd N R M en w2 l) := HR1.out.below hb2
    have HF2 : Hid (Fr (fun k => k = R) w w2) := HF1.out.trans (Fr.below hb2)
    unfold tokA
    clear hb2
    go_wp2_with fail
    rw [HK.out]
    refine (pass_any N R M en K w2 l HR2.out (fun hb => HL.out (HK.out.trans hb))).mono ?_
    intro e w3 hp
    have HP3 : Hid (PostR (passP en K l) (fun t v _ => v = tokA t) N R M en (fun k => k = R) w e w3) := hp.fr HF2.out
    clear hp
    cases K
    · obtain ⟨rfl, hfr⟩ := HP3.out
      go_wp2
      exact ⟨rfl, by rw [HP2.out]; exact ⟨rfl, hfr⟩⟩
    · obtain ⟨v, rfl, rfl, hrd, hfr⟩ := HP3.out
      unfold tokA
      go_wp2
      go_ret
      rw [HP2.out]
      exact ⟨_, rfl, rfl, hrd, hfr⟩
  · have HP2 : Hid (P = (passP en false l).bind fun _ r => .ok I r) := by show _ = _; rw [HP.out, decide_eq_false h0]; rfl
    go_wp2_with fail
    refine (pass_any N R M en false w1 l HR1.out (fun hb => by cases hb)).mono ?_
    intro e w3 hp
    have HP3 : Hid (PostR (passP en false l) (fun t v _ => v = tokA t) N R M en (fun k => k = R) w e w3) := hp.fr HF1.out
    clear hp
    obtain ⟨rfl, hfr⟩ := HP3.out
    go_wp2
    exact ⟨rfl, by rw [HP2.out]; exact ⟨rfl, hfr⟩⟩
end Go.Proofs.YtdjbejlbmaiocagGreatDoor
/-
  The library's contracts at this program, laid: one application each.
-/
namespace Go.Proofs
open Go.Shelf
def Tryz.lays169_ren : Go.Shelf.Ren := ⟨fun | 169 => 112 | n => n, fun | 70 => 148 | 9 => 9 | 0 => 0 | 72 => 150 | 37 => 107 | 127 => 217 | 3 => 3 | 5 => 5 | n => n, fun | n => n⟩
theorem Tryz.lays169 : Go.Proofs.Lays.n169 Tryz.prog Tryz.lays169_ren := {
  mixed := by kernel_rfl
  f169 := Tryz.func112.trans (congrArg some (by kernel_rfl))
  t0 := Tryz.underlying0
  a0 := Tryz.isAgg0
  z0 := Tryz.sizeOf0
  v0 := Tryz.zeroValue0
  t3 := Tryz.underlying3
  a3 := Tryz.isAgg3
  z3 := Tryz.sizeOf3
  v3 := Tryz.zeroValue3
  t9 := Tryz.underlying9
  a9 := Tryz.isAgg9
  z9 := Tryz.sizeOf9
  v9 := Tryz.zeroValue9
  t37 := Tryz.underlying107
  a37 := Tryz.isAgg107
  z37 := Tryz.sizeOf107
  v37 := Tryz.zeroValue107
  t70 := Tryz.underlying148
  a70 := Tryz.isAgg148
  z70 := Tryz.sizeOf148
  v70 := Tryz.zeroValue148
  t72 := Tryz.underlying150
  a72 := Tryz.isAgg150
  z72 := Tryz.sizeOf150
  v72 := Tryz.zeroValue150
  t127 := Tryz.underlying217
  a127 := Tryz.isAgg217
  z127 := Tryz.sizeOf217
  v127 := Tryz.zeroValue217 }
theorem Tryz.Builder_Extra_169 : Builder.Extra Tryz.prog Tryz.lays169_ren := {
  sizeBuilder := by kernel_rfl
  liesBuilder := by kernel_rfl
  t5 := Tryz.underlying5
  a5 := Tryz.isAgg5
  z5 := Tryz.sizeOf5
  v5 := Tryz.zeroValue5
  infoByte := by kernel_rfl
  cellsByte := by kernel_rfl
  sizeByte := by kernel_rfl
  neB5 := by decide }
open Go.RowKit in
theorem Tryz.Builder_String (B b : Nat) (l : List UInt8) (w : World) (h : Lib.IsBuilder 150 5 B b (Lib.byteCells l) w) (h0 : l ≠ []) :
    Calls Tryz.prog 112 #[.pointer (some ⟨b, 0, none⟩)] w fun e w' => e = .returned (.string ⟨l.toArray⟩) ∧ Below B w w' := Any.Builder_String Tryz.lays169 Tryz.Builder_Extra_169 B b l w h h0
open Go.RowKit in
theorem Tryz.Builder_String_empty (B b : Nat) (w : World) (h : Lib.IsBuilder 150 5 B b [] w) (hBw : B ≤ w.heap.size) :
    Calls Tryz.prog 112 #[.pointer (some ⟨b, 0, none⟩)] w fun e w' => e = .returned (.string ⟨#[]⟩) ∧ Below B w w' := Any.Builder_String_empty Tryz.lays169 Tryz.Builder_Extra_169 B b w h hBw
open Go.RowKit in
theorem Tryz.Builder_String_any (B b : Nat) (l : List UInt8) (w : World) (h : Lib.IsBuilder 150 5 B b (Lib.byteCells l) w) (hBw : B ≤ w.heap.size) :
    Calls Tryz.prog 112 #[.pointer (some ⟨b, 0, none⟩)] w fun e w' => e = .returned (.string ⟨l.toArray⟩) ∧ Below B w w' := Any.Builder_String_any Tryz.lays169 Tryz.Builder_Extra_169 B b l w h hBw
def Tryz.lays241_ren : Go.Shelf.Ren := ⟨fun | 241 => 288 | 277 => 291 | n => n, fun | 70 => 148 | 3 => 3 | 0 => 0 | 72 => 150 | 37 => 107 | 5 => 5 | n => n, fun | n => n⟩
theorem Tryz.lays241 : Go.Proofs.Lays.n241 Tryz.prog Tryz.lays241_ren := {
  mixed := by kernel_rfl
  f241 := Tryz.func288.trans (congrArg some (by kernel_rfl))
  f277 := Tryz.func291.trans (congrArg some (by kernel_rfl))
  t0 := Tryz.underlying0
  a0 := Tryz.isAgg0
  z0 := Tryz.sizeOf0
  v0 := Tryz.zeroValue0
  t3 := Tryz.underlying3
  a3 := Tryz.isAgg3
  z3 := Tryz.sizeOf3
  v3 := Tryz.zeroValue3
  t37 := Tryz.underlying107
  a37 := Tryz.isAgg107
  z37 := Tryz.sizeOf107
  v37 := Tryz.zeroValue107
  t70 := Tryz.underlying148
  a70 := Tryz.isAgg148
  z70 := Tryz.sizeOf148
  v70 := Tryz.zeroValue148
  t72 := Tryz.underlying150
  a72 := Tryz.isAgg150
  z72 := Tryz.sizeOf150
  v72 := Tryz.zeroValue150 }
theorem Tryz.Builder_Extra_241 : Builder.Extra Tryz.prog Tryz.lays241_ren := {
  sizeBuilder := by kernel_rfl
  liesBuilder := by kernel_rfl
  t5 := Tryz.underlying5
  a5 := Tryz.isAgg5
  z5 := Tryz.sizeOf5
  v5 := Tryz.zeroValue5
  infoByte := by kernel_rfl
  cellsByte := by kernel_rfl
  sizeByte := by kernel_rfl
  neB5 := by decide }
open Go.RowKit in
theorem Tryz.Builder_grow_fresh (B b n : Nat) (w : World) (hB : B ≤ b) (hbk : w.heap[b]? = some (.cells #[.pointer (some ⟨b, 0, none⟩), .slice none 0 0] 150 (0, 0))) (hBw : B ≤ w.heap.size) (hn : n ≤ 281474976710656) :
    Calls Tryz.prog 288 #[.pointer (some ⟨b, 0, none⟩), .int .i64 n] w fun e w' => e = .returned (.tuple #[]) ∧ (Lib.BuilderAt 150 5 B b (.pointer (some ⟨b, 0, none⟩)) [] w' ∧ Below B w w') := Any.Builder_grow_fresh Tryz.lays241 Tryz.Builder_Extra_241 B b n w hB hbk hBw hn
def Tryz.lays165_ren : Go.Shelf.Ren := ⟨fun | 165 => 270 | 240 => 162 | 241 => 288 | 276 => 228 | 277 => 291 | n => n, fun | 70 => 148 | 3 => 3 | 0 => 0 | 4 => 4 | 9 => 9 | 20 => 20 | 72 => 150 | 37 => 107 | 164 => 269 | 5 => 5 | n => n, fun | n => n⟩
theorem Tryz.lays165 : Go.Proofs.Lays.n165 Tryz.prog Tryz.lays165_ren := {
  mixed := by kernel_rfl
  f165 := Tryz.func270.trans (congrArg some (by kernel_rfl))
  f240 := Tryz.func162.trans (congrArg some (by kernel_rfl))
  f241 := Tryz.func288.trans (congrArg some (by kernel_rfl))
  f276 := Tryz.func228.trans (congrArg some (by kernel_rfl))
  f277 := Tryz.func291.trans (congrArg some (by kernel_rfl))
  t0 := Tryz.underlying0
  a0 := Tryz.isAgg0
  z0 := Tryz.sizeOf0
  v0 := Tryz.zeroValue0
  t3 := Tryz.underlying3
  a3 := Tryz.isAgg3
  z3 := Tryz.sizeOf3
  v3 := Tryz.zeroValue3
  t4 := Tryz.underlying4
  a4 := Tryz.isAgg4
  z4 := Tryz.sizeOf4
  v4 := Tryz.zeroValue4
  t9 := Tryz.underlying9
  a9 := Tryz.isAgg9
  z9 := Tryz.sizeOf9
  v9 := Tryz.zeroValue9
  t20 := Tryz.underlying20
  a20 := Tryz.isAgg20
  z20 := Tryz.sizeOf20
  v20 := Tryz.zeroValue20
  t37 := Tryz.underlying107
  a37 := Tryz.isAgg107
  z37 := Tryz.sizeOf107
  v37 := Tryz.zeroValue107
  t70 := Tryz.underlying148
  a70 := Tryz.isAgg148
  z70 := Tryz.sizeOf148
  v70 := Tryz.zeroValue148
  t72 := Tryz.underlying150
  a72 := Tryz.isAgg150
  z72 := Tryz.sizeOf150
  v72 := Tryz.zeroValue150
  t164 := Tryz.underlying269
  a164 := Tryz.isAgg269
  z164 := Tryz.sizeOf269
  v164 := Tryz.zeroValue269 }
theorem Tryz.Builder_Extra_165 : Builder.Extra Tryz.prog Tryz.lays165_ren := {
  sizeBuilder := by kernel_rfl
  liesBuilder := by kernel_rfl
  t5 := Tryz.underlying5
  a5 := Tryz.isAgg5
  z5 := Tryz.sizeOf5
  v5 := Tryz.zeroValue5
  infoByte := by kernel_rfl
  cellsByte := by kernel_rfl
  sizeByte := by kernel_rfl
  neB5 := by decide }
open Go.RowKit in
theorem Tryz.Builder_Grow_fresh (B b n : Nat) (w : World) (hB : B ≤ b) (hbk : w.heap[b]? = some (.cells #[.pointer none, .slice none 0 0] 150 (0, 0))) (hBw : B ≤ w.heap.size) (hn : n ≤ 281474976710656) :
    Calls Tryz.prog 270 #[.pointer (some ⟨b, 0, none⟩), .int .i64 n] w fun e w' => e = .returned (.tuple #[]) ∧ (Lib.BuilderAt 150 5 B b (.pointer (some ⟨b, 0, none⟩)) [] w' ∧ Below B w w') := Any.Builder_Grow_fresh Tryz.lays165 Tryz.Builder_Extra_165 B b n w hB hbk hBw hn
def Tryz.lays156_ren : Go.Shelf.Ren := ⟨fun | 156 => 229 | 165 => 270 | 166 => 110 | 169 => 112 | 240 => 162 | 241 => 288 | 276 => 228 | 277 => 291 | n => n, fun | 31 => 106 | 9 => 9 | 3 => 3 | 4 => 4 | 0 => 0 | 20 => 20 | 72 => 150 | 76 => 153 | 70 => 148 | 37 => 107 | 75 => 152 | 127 => 217 | 164 => 269 | 5 => 5 | 80 => 100 | n => n, fun | n => n⟩
theorem Tryz.lays156 : Go.Proofs.Lays.n156 Tryz.prog Tryz.lays156_ren := {
  mixed := by kernel_rfl
  f156 := Tryz.func229.trans (congrArg some (by kernel_rfl))
  f165 := Tryz.func270.trans (congrArg some (by kernel_rfl))
  f166 := Tryz.func110.trans (congrArg some (by kernel_rfl))
  f169 := Tryz.func112.trans (congrArg some (by kernel_rfl))
  f240 := Tryz.func162.trans (congrArg some (by kernel_rfl))
  f241 := Tryz.func288.trans (congrArg some (by kernel_rfl))
  f276 := Tryz.func228.trans (congrArg some (by kernel_rfl))
  f277 := Tryz.func291.trans (congrArg some (by kernel_rfl))
  t0 := Tryz.underlying0
  a0 := Tryz.isAgg0
  z0 := Tryz.sizeOf0
  v0 := Tryz.zeroValue0
  t3 := Tryz.underlying3
  a3 := Tryz.isAgg3
  z3 := Tryz.sizeOf3
  v3 := Tryz.zeroValue3
  t4 := Tryz.underlying4
  a4 := Tryz.isAgg4
  z4 := Tryz.sizeOf4
  v4 := Tryz.zeroValue4
  t9 := Tryz.underlying9
  a9 := Tryz.isAgg9
  z9 := Tryz.sizeOf9
  v9 := Tryz.zeroValue9
  t20 := Tryz.underlying20
  a20 := Tryz.isAgg20
  z20 := Tryz.sizeOf20
  v20 := Tryz.zeroValue20
  t31 := Tryz.underlying106
  a31 := Tryz.isAgg106
  z31 := Tryz.sizeOf106
  v31 := Tryz.zeroValue106
  t37 := Tryz.underlying107
  a37 := Tryz.isAgg107
  z37 := Tryz.sizeOf107
  v37 := Tryz.zeroValue107
  t70 := Tryz.underlying148
  a70 := Tryz.isAgg148
  z70 := Tryz.sizeOf148
  v70 := Tryz.zeroValue148
  t72 := Tryz.underlying150
  a72 := Tryz.isAgg150
  z72 := Tryz.sizeOf150
  v72 := Tryz.zeroValue150
  t75 := Tryz.underlying152
  a75 := Tryz.isAgg152
  z75 := Tryz.sizeOf152
  v75 := Tryz.zeroValue152
  t76 := Tryz.underlying153
  a76 := Tryz.isAgg153
  z76 := Tryz.sizeOf153
  v76 := Tryz.zeroValue153
  t127 := Tryz.underlying217
  a127 := Tryz.isAgg217
  z127 := Tryz.sizeOf217
  v127 := Tryz.zeroValue217
  t164 := Tryz.underlying269
  a164 := Tryz.isAgg269
  z164 := Tryz.sizeOf269
  v164 := Tryz.zeroValue269 }
theorem Tryz.Builder_Extra_156 : Builder.Extra Tryz.prog Tryz.lays156_ren := {
  sizeBuilder := by kernel_rfl
  liesBuilder := by kernel_rfl
  t5 := Tryz.underlying5
  a5 := Tryz.isAgg5
  z5 := Tryz.sizeOf5
  v5 := Tryz.zeroValue5
  infoByte := by kernel_rfl
  cellsByte := by kernel_rfl
  sizeByte := by kernel_rfl
  neB5 := by decide }
open Go.RowKit in
theorem Tryz.strings_Join_none (a : Option Addr) (c : Nat) (sep : ByteArray) (w : World) :
    Calls Tryz.prog 229 #[.slice a 0 c, .string sep] w fun e w' => e = .returned (.string ⟨#[]⟩) ∧ w' = w := Any.strings_Join_none Tryz.lays156 Tryz.Builder_Extra_156 a c sep w
open Go.RowKit in
theorem Tryz.strings_Join (bk o c : Nat) (xs : List ByteArray) (sep : ByteArray) (w : World) (hcells : ∀ (j : Nat) x, xs[j]? = some x → w.cell? ⟨bk, o + j, none⟩ = some (.string x)) (hbk : bk < w.heap.size) (hN : xs.length ≤ 140737488355328) (hcap : xs.length ≤ c) (hlen : (Lib.join (xs.map (·.data.toList)) sep.data.toList).length ≤ 140737488355328) :
    Calls Tryz.prog 229 #[.slice (some ⟨bk, o, none⟩) xs.length c, .string sep] w fun e w' => e = .returned (.string ⟨(Lib.join (xs.map (·.data.toList)) sep.data.toList).toArray⟩) ∧ Below w.heap.size w w' := Any.strings_Join Tryz.lays156 Tryz.Builder_Extra_156 bk o c xs sep w hcells hbk hN hcap hlen
open Go.RowKit in
theorem Tryz.Builder_String_f (B b : Nat) (l : List UInt8) (w : World) (h : Lib.IsBuilderF 150 5 B b (Lib.byteCells l) w) (h0 : l ≠ []) :
    Calls Tryz.prog 112 #[.pointer (some ⟨b, 0, none⟩)] w fun e w' => e = .returned (.string ⟨l.toArray⟩) ∧ (Lib.IsBuilderF 150 5 B b (Lib.byteCells l) w' ∧ Below B w w') := Any.Builder_String_f Tryz.lays169 Tryz.Builder_Extra_169 B b l w h h0
open Go.RowKit in
theorem Tryz.Builder_String_empty_f (B b : Nat) (w : World) (h : Lib.IsBuilderF 150 5 B b [] w) (hBw : B ≤ w.heap.size) :
    Calls Tryz.prog 112 #[.pointer (some ⟨b, 0, none⟩)] w fun e w' => e = .returned (.string ⟨#[]⟩) ∧ (Lib.IsBuilderF 150 5 B b [] w' ∧ Below B w w') := Any.Builder_String_empty_f Tryz.lays169 Tryz.Builder_Extra_169 B b w h hBw
open Go.RowKit in
theorem Tryz.Builder_String_any_f (B b : Nat) (l : List UInt8) (w : World) (h : Lib.IsBuilderF 150 5 B b (Lib.byteCells l) w) (hBw : B ≤ w.heap.size) :
    Calls Tryz.prog 112 #[.pointer (some ⟨b, 0, none⟩)] w fun e w' => e = .returned (.string ⟨l.toArray⟩) ∧ (Lib.IsBuilderF 150 5 B b (Lib.byteCells l) w' ∧ Below B w w') := Any.Builder_String_any_f Tryz.lays169 Tryz.Builder_Extra_169 B b l w h hBw
def Tryz.lays244_ren : Go.Shelf.Ren := ⟨fun | 244 => 289 | 247 => 292 | 287 => 297 | 321 => 300 | 322 => 301 | n => n, fun | 9 => 9 | 3 => 3 | 75 => 152 | 4 => 4 | 5 => 5 | 167 => 319 | 37 => 107 | 0 => 0 | 85 => 320 | 2 => 2 | 53 => 182 | 175 => 325 | 46 => 197 | 21 => 21 | 80 => 100 | n => n, fun | n => n⟩
theorem Tryz.lays244 : Go.Proofs.Lays.n244 Tryz.prog Tryz.lays244_ren := {
  mixed := by kernel_rfl
  f244 := Tryz.func289.trans (congrArg some (by kernel_rfl))
  f247 := Tryz.func292.trans (congrArg some (by kernel_rfl))
  f287 := Tryz.func297.trans (congrArg some (by kernel_rfl))
  f321 := Tryz.func300.trans (congrArg some (by kernel_rfl))
  f322 := Tryz.func301.trans (congrArg some (by kernel_rfl))
  t0 := Tryz.underlying0
  a0 := Tryz.isAgg0
  z0 := Tryz.sizeOf0
  v0 := Tryz.zeroValue0
  t2 := Tryz.underlying2
  a2 := Tryz.isAgg2
  z2 := Tryz.sizeOf2
  v2 := Tryz.zeroValue2
  t3 := Tryz.underlying3
  a3 := Tryz.isAgg3
  z3 := Tryz.sizeOf3
  v3 := Tryz.zeroValue3
  t4 := Tryz.underlying4
  a4 := Tryz.isAgg4
  z4 := Tryz.sizeOf4
  v4 := Tryz.zeroValue4
  t5 := Tryz.underlying5
  a5 := Tryz.isAgg5
  z5 := Tryz.sizeOf5
  v5 := Tryz.zeroValue5
  t9 := Tryz.underlying9
  a9 := Tryz.isAgg9
  z9 := Tryz.sizeOf9
  v9 := Tryz.zeroValue9
  t21 := Tryz.underlying21
  a21 := Tryz.isAgg21
  z21 := Tryz.sizeOf21
  v21 := Tryz.zeroValue21
  t37 := Tryz.underlying107
  a37 := Tryz.isAgg107
  z37 := Tryz.sizeOf107
  v37 := Tryz.zeroValue107
  t46 := Tryz.underlying197
  a46 := Tryz.isAgg197
  z46 := Tryz.sizeOf197
  v46 := Tryz.zeroValue197
  t53 := Tryz.underlying182
  a53 := Tryz.isAgg182
  z53 := Tryz.sizeOf182
  v53 := Tryz.zeroValue182
  t75 := Tryz.underlying152
  a75 := Tryz.isAgg152
  z75 := Tryz.sizeOf152
  v75 := Tryz.zeroValue152
  t85 := Tryz.underlying320
  a85 := Tryz.isAgg320
  z85 := Tryz.sizeOf320
  v85 := Tryz.zeroValue320
  t167 := Tryz.underlying319
  a167 := Tryz.isAgg319
  z167 := Tryz.sizeOf319
  v167 := Tryz.zeroValue319
  t175 := Tryz.underlying325
  a175 := Tryz.isAgg325
  z175 := Tryz.sizeOf325
  v175 := Tryz.zeroValue325 }
open Go.RowKit in
theorem Tryz.internal_strconv_Atoi (s : ByteArray) (n : Int) (hl : s.size ≤ 18) (h : Lib.atoi s.data.toList = some n) (w : World) :
    Calls Tryz.prog 289 #[.string s] w fun e w' => e = .returned (.tuple #[.int .i64 n, .nilIface]) ∧ ∃ t, w' = Lib.bytesWorld w 5 t := Any.internal_strconv_Atoi Tryz.lays244 s n hl h w
def Tryz.lays172_ren : Go.Shelf.Ren := ⟨fun | 172 => 274 | 244 => 289 | 245 => 290 | 247 => 292 | 279 => 293 | 280 => 294 | 281 => 295 | 282 => 296 | 287 => 297 | 316 => 298 | 171 => 55 | 205 => 299 | 321 => 300 | 322 => 301 | 243 => 109 | 246 => 161 | 283 => 224 | 284 => 225 | 285 => 226 | 286 => 227 | 129 => 210 | 317 => 266 | 318 => 267 | 319 => 268 | 320 => 269 | 337 => 287 | 338 => 258 | n => n, fun | 9 => 9 | 3 => 3 | 75 => 152 | 76 => 153 | 4 => 4 | 5 => 5 | 167 => 319 | 37 => 107 | 0 => 0 | 85 => 320 | 2 => 2 | 168 => 322 | 53 => 182 | 175 => 325 | 46 => 197 | 210 => 329 | 127 => 217 | 145 => 334 | 143 => 332 | 21 => 21 | 171 => 265 | 173 => 267 | 212 => 300 | 51 => 254 | 20 => 20 | 213 => 301 | 232 => 317 | 233 => 313 | 80 => 100 | n => n, fun | 15 => 4 | 16 => 5 | 17 => 0 | 18 => 2 | 19 => 1 | n => n⟩
theorem Tryz.lays172 : Go.Proofs.Lays.n172 Tryz.prog Tryz.lays172_ren := {
  mixed := by kernel_rfl
  f129 := Tryz.func210.trans (congrArg some (by kernel_rfl))
  f171 := Tryz.func55.trans (congrArg some (by kernel_rfl))
  f172 := Tryz.func274.trans (congrArg some (by kernel_rfl))
  f205 := Tryz.func299.trans (congrArg some (by kernel_rfl))
  f243 := Tryz.func109.trans (congrArg some (by kernel_rfl))
  f244 := Tryz.func289.trans (congrArg some (by kernel_rfl))
  f245 := Tryz.func290.trans (congrArg some (by kernel_rfl))
  f246 := Tryz.func161.trans (congrArg some (by kernel_rfl))
  f247 := Tryz.func292.trans (congrArg some (by kernel_rfl))
  f279 := Tryz.func293.trans (congrArg some (by kernel_rfl))
  f280 := Tryz.func294.trans (congrArg some (by kernel_rfl))
  f281 := Tryz.func295.trans (congrArg some (by kernel_rfl))
  f282 := Tryz.func296.trans (congrArg some (by kernel_rfl))
  f283 := Tryz.func224.trans (congrArg some (by kernel_rfl))
  f284 := Tryz.func225.trans (congrArg some (by kernel_rfl))
  f285 := Tryz.func226.trans (congrArg some (by kernel_rfl))
  f286 := Tryz.func227.trans (congrArg some (by kernel_rfl))
  f287 := Tryz.func297.trans (congrArg some (by kernel_rfl))
  f316 := Tryz.func298.trans (congrArg some (by kernel_rfl))
  f317 := Tryz.func266.trans (congrArg some (by kernel_rfl))
  f318 := Tryz.func267.trans (congrArg some (by kernel_rfl))
  f319 := Tryz.func268.trans (congrArg some (by kernel_rfl))
  f320 := Tryz.func269.trans (congrArg some (by kernel_rfl))
  f321 := Tryz.func300.trans (congrArg some (by kernel_rfl))
  f322 := Tryz.func301.trans (congrArg some (by kernel_rfl))
  f337 := Tryz.func287.trans (congrArg some (by kernel_rfl))
  f338 := Tryz.func258.trans (congrArg some (by kernel_rfl))
  t0 := Tryz.underlying0
  a0 := Tryz.isAgg0
  z0 := Tryz.sizeOf0
  v0 := Tryz.zeroValue0
  t2 := Tryz.underlying2
  a2 := Tryz.isAgg2
  z2 := Tryz.sizeOf2
  v2 := Tryz.zeroValue2
  t3 := Tryz.underlying3
  a3 := Tryz.isAgg3
  z3 := Tryz.sizeOf3
  v3 := Tryz.zeroValue3
  t4 := Tryz.underlying4
  a4 := Tryz.isAgg4
  z4 := Tryz.sizeOf4
  v4 := Tryz.zeroValue4
  t5 := Tryz.underlying5
  a5 := Tryz.isAgg5
  z5 := Tryz.sizeOf5
  v5 := Tryz.zeroValue5
  t9 := Tryz.underlying9
  a9 := Tryz.isAgg9
  z9 := Tryz.sizeOf9
  v9 := Tryz.zeroValue9
  t20 := Tryz.underlying20
  a20 := Tryz.isAgg20
  z20 := Tryz.sizeOf20
  v20 := Tryz.zeroValue20
  t21 := Tryz.underlying21
  a21 := Tryz.isAgg21
  z21 := Tryz.sizeOf21
  v21 := Tryz.zeroValue21
  t37 := Tryz.underlying107
  a37 := Tryz.isAgg107
  z37 := Tryz.sizeOf107
  v37 := Tryz.zeroValue107
  t46 := Tryz.underlying197
  a46 := Tryz.isAgg197
  z46 := Tryz.sizeOf197
  v46 := Tryz.zeroValue197
  t51 := Tryz.underlying254
  a51 := Tryz.isAgg254
  z51 := Tryz.sizeOf254
  v51 := Tryz.zeroValue254
  t53 := Tryz.underlying182
  a53 := Tryz.isAgg182
  z53 := Tryz.sizeOf182
  v53 := Tryz.zeroValue182
  t75 := Tryz.underlying152
  a75 := Tryz.isAgg152
  z75 := Tryz.sizeOf152
  v75 := Tryz.zeroValue152
  t76 := Tryz.underlying153
  a76 := Tryz.isAgg153
  z76 := Tryz.sizeOf153
  v76 := Tryz.zeroValue153
  t85 := Tryz.underlying320
  a85 := Tryz.isAgg320
  z85 := Tryz.sizeOf320
  v85 := Tryz.zeroValue320
  t127 := Tryz.underlying217
  a127 := Tryz.isAgg217
  z127 := Tryz.sizeOf217
  v127 := Tryz.zeroValue217
  t143 := Tryz.underlying332
  a143 := Tryz.isAgg332
  z143 := Tryz.sizeOf332
  v143 := Tryz.zeroValue332
  t145 := Tryz.underlying334
  a145 := Tryz.isAgg334
  z145 := Tryz.sizeOf334
  v145 := Tryz.zeroValue334
  t167 := Tryz.underlying319
  a167 := Tryz.isAgg319
  z167 := Tryz.sizeOf319
  v167 := Tryz.zeroValue319
  t168 := Tryz.underlying322
  a168 := Tryz.isAgg322
  z168 := Tryz.sizeOf322
  v168 := Tryz.zeroValue322
  t171 := Tryz.underlying265
  a171 := Tryz.isAgg265
  z171 := Tryz.sizeOf265
  v171 := Tryz.zeroValue265
  t173 := Tryz.underlying267
  a173 := Tryz.isAgg267
  z173 := Tryz.sizeOf267
  v173 := Tryz.zeroValue267
  t175 := Tryz.underlying325
  a175 := Tryz.isAgg325
  z175 := Tryz.sizeOf325
  v175 := Tryz.zeroValue325
  t210 := Tryz.underlying329
  a210 := Tryz.isAgg329
  z210 := Tryz.sizeOf329
  v210 := Tryz.zeroValue329
  t212 := Tryz.underlying300
  a212 := Tryz.isAgg300
  z212 := Tryz.sizeOf300
  v212 := Tryz.zeroValue300
  t213 := Tryz.underlying301
  a213 := Tryz.isAgg301
  z213 := Tryz.sizeOf301
  t232 := Tryz.underlying317
  a232 := Tryz.isAgg317
  z232 := Tryz.sizeOf317
  v232 := Tryz.zeroValue317
  t233 := Tryz.underlying313
  a233 := Tryz.isAgg313
  z233 := Tryz.sizeOf313
  v233 := Tryz.zeroValue313
  g15 := by kernel_rfl
  g16 := by kernel_rfl
  g17 := by kernel_rfl
  g18 := by kernel_rfl
  g19 := by kernel_rfl }
open Go.RowKit in
theorem Tryz.strconv_Atoi (s : ByteArray) (n : Int) (hl : s.size ≤ 18) (h : Lib.atoi s.data.toList = some n) (w : World) :
    Calls Tryz.prog 274 #[.string s] w fun e w' => e = .returned (.tuple #[.int .i64 n, .nilIface]) ∧ ∃ t, w' = Lib.bytesWorld w 5 t := Any.strconv_Atoi Tryz.lays172 s n hl h w
def Tryz.lays129_ren : Go.Shelf.Ren := ⟨fun | 129 => 210 | n => n, fun | 53 => 182 | 3 => 3 | 4 => 4 | 46 => 197 | 5 => 5 | 9 => 9 | n => n, fun | n => n⟩
theorem Tryz.lays129 : Go.Proofs.Lays.n129 Tryz.prog Tryz.lays129_ren := {
  mixed := by kernel_rfl
  f129 := Tryz.func210.trans (congrArg some (by kernel_rfl))
  t3 := Tryz.underlying3
  a3 := Tryz.isAgg3
  z3 := Tryz.sizeOf3
  v3 := Tryz.zeroValue3
  t4 := Tryz.underlying4
  a4 := Tryz.isAgg4
  z4 := Tryz.sizeOf4
  v4 := Tryz.zeroValue4
  t5 := Tryz.underlying5
  a5 := Tryz.isAgg5
  z5 := Tryz.sizeOf5
  v5 := Tryz.zeroValue5
  t9 := Tryz.underlying9
  a9 := Tryz.isAgg9
  z9 := Tryz.sizeOf9
  v9 := Tryz.zeroValue9
  t46 := Tryz.underlying197
  a46 := Tryz.isAgg197
  z46 := Tryz.sizeOf197
  v46 := Tryz.zeroValue197
  t53 := Tryz.underlying182
  a53 := Tryz.isAgg182
  z53 := Tryz.sizeOf182
  v53 := Tryz.zeroValue182 }
theorem Tryz.bits_Len64 (x : Int) (w : World) (h0 : 0 ≤ x) (h1 : x ≤ 18446744073709551615) :
    Calls Tryz.prog 210 #[.int .u64 x] w fun e w' => e = .returned (.int .i64 (Lib.bitLen x.toNat)) ∧ w' = w := Any.bits_Len64 Tryz.lays129 x w h0 h1
def Tryz.lays317_ren : Go.Shelf.Ren := ⟨fun | 317 => 266 | n => n, fun | 3 => 3 | 46 => 197 | n => n, fun | n => n⟩
theorem Tryz.lays317 : Go.Proofs.Lays.n317 Tryz.prog Tryz.lays317_ren := {
  mixed := by kernel_rfl
  f317 := Tryz.func266.trans (congrArg some (by kernel_rfl))
  t3 := Tryz.underlying3
  a3 := Tryz.isAgg3
  z3 := Tryz.sizeOf3
  v3 := Tryz.zeroValue3
  t46 := Tryz.underlying197
  a46 := Tryz.isAgg197
  z46 := Tryz.sizeOf197
  v46 := Tryz.zeroValue197 }
open Go.Lib in
theorem Tryz.internal_strconv_log10Pow2 (x : Nat) (h : x ≤ 64) (w : World) :
    Calls Tryz.prog 266 #[.int .i64 x] w fun e w' => e = .returned (.int .i64 (Lib.l10 x)) ∧ w' = w := Any.internal_strconv_log10Pow2 Tryz.lays317 x h w
def Tryz.lays318_ren : Go.Shelf.Ren := ⟨fun | 318 => 267 | n => n, fun | 3 => 3 | 4 => 4 | n => n, fun | n => n⟩
theorem Tryz.lays318 : Go.Proofs.Lays.n318 Tryz.prog Tryz.lays318_ren := {
  mixed := by kernel_rfl
  f318 := Tryz.func267.trans (congrArg some (by kernel_rfl))
  t3 := Tryz.underlying3
  a3 := Tryz.isAgg3
  z3 := Tryz.sizeOf3
  v3 := Tryz.zeroValue3
  t4 := Tryz.underlying4
  a4 := Tryz.isAgg4
  z4 := Tryz.sizeOf4
  v4 := Tryz.zeroValue4 }
open Go.Lib in
theorem Tryz.internal_strconv_bool2_int (b : Bool) (w : World) :
    Calls Tryz.prog 267 #[.bool b] w fun e w' => e = .returned (.int .i64 (if b then 1 else 0)) ∧ w' = w := Any.internal_strconv_bool2_int Tryz.lays318 b w
def Tryz.lays283_ren : Go.Shelf.Ren := ⟨fun | 283 => 224 | n => n, fun | 3 => 3 | 9 => 9 | 4 => 4 | n => n, fun | n => n⟩
theorem Tryz.lays283 : Go.Proofs.Lays.n283 Tryz.prog Tryz.lays283_ren := {
  mixed := by kernel_rfl
  f283 := Tryz.func224.trans (congrArg some (by kernel_rfl))
  t3 := Tryz.underlying3
  a3 := Tryz.isAgg3
  z3 := Tryz.sizeOf3
  v3 := Tryz.zeroValue3
  t4 := Tryz.underlying4
  a4 := Tryz.isAgg4
  z4 := Tryz.sizeOf4
  v4 := Tryz.zeroValue4
  t9 := Tryz.underlying9
  a9 := Tryz.isAgg9
  z9 := Tryz.sizeOf9
  v9 := Tryz.zeroValue9 }
open Go.Lib in
theorem Tryz.internal_strconv_small (i : Nat) (h : i < 100) (w : World) :
    Calls Tryz.prog 224 #[.int .i64 i] w fun e w' => e = .returned (.string ⟨(Lib.decDigits i).toArray⟩) ∧ w' = w := Any.internal_strconv_small Tryz.lays283 i h w
def Tryz.laysM284_ren : Go.Shelf.Ren := ⟨fun | 284 => 225 | 129 => 210 | 317 => 266 | 318 => 267 | n => n, fun | 53 => 182 | 3 => 3 | 212 => 300 | 0 => 0 | 4 => 4 | 46 => 197 | 5 => 5 | 9 => 9 | n => n, fun | 17 => 0 | n => n⟩
theorem Tryz.laysM284 : Go.Proofs.LaysM.n284 Tryz.prog Tryz.laysM284_ren := {
  mixed := by kernel_rfl
  f129 := Tryz.func210.trans (congrArg some (by kernel_rfl))
  f284 := Tryz.func225.trans (congrArg some (by kernel_rfl))
  f317 := Tryz.func266.trans (congrArg some (by kernel_rfl))
  f318 := Tryz.func267.trans (congrArg some (by kernel_rfl))
  t0 := Tryz.underlying0
  a0 := Tryz.isAgg0
  z0 := Tryz.sizeOf0
  v0 := Tryz.zeroValue0
  t3 := Tryz.underlying3
  a3 := Tryz.isAgg3
  z3 := Tryz.sizeOf3
  v3 := Tryz.zeroValue3
  t4 := Tryz.underlying4
  a4 := Tryz.isAgg4
  z4 := Tryz.sizeOf4
  v4 := Tryz.zeroValue4
  t5 := Tryz.underlying5
  a5 := Tryz.isAgg5
  z5 := Tryz.sizeOf5
  v5 := Tryz.zeroValue5
  t9 := Tryz.underlying9
  a9 := Tryz.isAgg9
  z9 := Tryz.sizeOf9
  v9 := Tryz.zeroValue9
  t46 := Tryz.underlying197
  a46 := Tryz.isAgg197
  z46 := Tryz.sizeOf197
  v46 := Tryz.zeroValue197
  t53 := Tryz.underlying182
  a53 := Tryz.isAgg182
  z53 := Tryz.sizeOf182
  v53 := Tryz.zeroValue182
  t212 := Tryz.underlying300
  a212 := Tryz.isAgg300
  z212 := Tryz.sizeOf300
  v212 := Tryz.zeroValue300
  g17 := by kernel_rfl
  i0 := by kernel_rfl
  i3 := by kernel_rfl
  i4 := by kernel_rfl
  i5 := by kernel_rfl
  i9 := by kernel_rfl
  i46 := by kernel_rfl
  i53 := by kernel_rfl
  i212 := by kernel_rfl
  m17 := by kernel_rfl }
open Go.Lib in
theorem Tryz.internal_strconv_numDigits (u : Nat) (h1 : 1 ≤ u) (h2 : u < 18446744073709551616) (w : World) (htab : Lib.TabIs Tryz.prog w "internal/strconv.uint64pow10" .u64 Lib.pow10Tab) :
    Calls Tryz.prog 225 #[.int .u64 u] w fun e w' => e = .returned (.int .i64 (Lib.nDigits u)) ∧ w' = w := Any.internal_strconv_numDigits Tryz.laysM284 u h1 h2 w htab
def Tryz.lays285_ren : Go.Shelf.Ren := ⟨fun | 285 => 226 | n => n, fun | 37 => 107 | 53 => 182 | 3 => 3 | 4 => 4 | 51 => 254 | 9 => 9 | 5 => 5 | 0 => 0 | n => n, fun | n => n⟩
theorem Tryz.lays285 : Go.Proofs.Lays.n285 Tryz.prog Tryz.lays285_ren := {
  mixed := by kernel_rfl
  f285 := Tryz.func226.trans (congrArg some (by kernel_rfl))
  t0 := Tryz.underlying0
  a0 := Tryz.isAgg0
  z0 := Tryz.sizeOf0
  v0 := Tryz.zeroValue0
  t3 := Tryz.underlying3
  a3 := Tryz.isAgg3
  z3 := Tryz.sizeOf3
  v3 := Tryz.zeroValue3
  t4 := Tryz.underlying4
  a4 := Tryz.isAgg4
  z4 := Tryz.sizeOf4
  v4 := Tryz.zeroValue4
  t5 := Tryz.underlying5
  a5 := Tryz.isAgg5
  z5 := Tryz.sizeOf5
  v5 := Tryz.zeroValue5
  t9 := Tryz.underlying9
  a9 := Tryz.isAgg9
  z9 := Tryz.sizeOf9
  v9 := Tryz.zeroValue9
  t37 := Tryz.underlying107
  a37 := Tryz.isAgg107
  z37 := Tryz.sizeOf107
  v37 := Tryz.zeroValue107
  t51 := Tryz.underlying254
  a51 := Tryz.isAgg254
  z51 := Tryz.sizeOf254
  v51 := Tryz.zeroValue254
  t53 := Tryz.underlying182
  a53 := Tryz.isAgg182
  z53 := Tryz.sizeOf182
  v53 := Tryz.zeroValue182 }
open Go.RowKit Go.Sort Go.Lib in
theorem Tryz.internal_strconv_formatBase10 (blk off cap : Nat) (u : Nat) (d : Array UInt8) (w : World) (hH : Holds (fun (b : UInt8) => Value.int .u8 (b.toNat : Int)) w blk off d) (hu : u < 10 ^ d.size) (hu64 : u < 18446744073709551616) (hsz : d.size < 4611686018427387904) :
    Calls Tryz.prog 226 #[.slice (some ⟨blk, off, none⟩) d.size cap, .int .u64 u] w fun e w' =>
      e = .returned (.tuple #[]) ∧ ∃ (n v' : Nat) (dk : Array UInt8), w' = (putRow (fun (b : UInt8) => Value.int .u8 (b.toNat : Int)) w blk off dk).drewN n ∧ FmtInv d.size u 0 v' dk := Any.internal_strconv_formatBase10 Tryz.lays285 blk off cap u d w hH hu hu64 hsz
def Tryz.laysM246_ren : Go.Shelf.Ren := ⟨fun | 246 => 161 | 283 => 224 | 284 => 225 | 285 => 226 | 286 => 227 | 129 => 210 | 317 => 266 | 318 => 267 | 319 => 268 | 320 => 269 | 337 => 287 | 338 => 258 | n => n, fun | 2 => 2 | 3 => 3 | 9 => 9 | 4 => 4 | 171 => 265 | 0 => 0 | 53 => 182 | 37 => 107 | 5 => 5 | 173 => 267 | 212 => 300 | 51 => 254 | 20 => 20 | 213 => 301 | 46 => 197 | 232 => 317 | 233 => 313 | n => n, fun | 17 => 0 | 18 => 2 | 19 => 1 | n => n⟩
theorem Tryz.laysM246 : Go.Proofs.LaysM.n246 Tryz.prog Tryz.laysM246_ren := {
  mixed := by kernel_rfl
  f129 := Tryz.func210.trans (congrArg some (by kernel_rfl))
  f246 := Tryz.func161.trans (congrArg some (by kernel_rfl))
  f283 := Tryz.func224.trans (congrArg some (by kernel_rfl))
  f284 := Tryz.func225.trans (congrArg some (by kernel_rfl))
  f285 := Tryz.func226.trans (congrArg some (by kernel_rfl))
  f286 := Tryz.func227.trans (congrArg some (by kernel_rfl))
  f317 := Tryz.func266.trans (congrArg some (by kernel_rfl))
  f318 := Tryz.func267.trans (congrArg some (by kernel_rfl))
  f319 := Tryz.func268.trans (congrArg some (by kernel_rfl))
  f320 := Tryz.func269.trans (congrArg some (by kernel_rfl))
  f337 := Tryz.func287.trans (congrArg some (by kernel_rfl))
  f338 := Tryz.func258.trans (congrArg some (by kernel_rfl))
  t0 := Tryz.underlying0
  a0 := Tryz.isAgg0
  z0 := Tryz.sizeOf0
  v0 := Tryz.zeroValue0
  t2 := Tryz.underlying2
  a2 := Tryz.isAgg2
  z2 := Tryz.sizeOf2
  v2 := Tryz.zeroValue2
  t3 := Tryz.underlying3
  a3 := Tryz.isAgg3
  z3 := Tryz.sizeOf3
  v3 := Tryz.zeroValue3
  t4 := Tryz.underlying4
  a4 := Tryz.isAgg4
  z4 := Tryz.sizeOf4
  v4 := Tryz.zeroValue4
  t5 := Tryz.underlying5
  a5 := Tryz.isAgg5
  z5 := Tryz.sizeOf5
  v5 := Tryz.zeroValue5
  t9 := Tryz.underlying9
  a9 := Tryz.isAgg9
  z9 := Tryz.sizeOf9
  v9 := Tryz.zeroValue9
  t20 := Tryz.underlying20
  a20 := Tryz.isAgg20
  z20 := Tryz.sizeOf20
  v20 := Tryz.zeroValue20
  t37 := Tryz.underlying107
  a37 := Tryz.isAgg107
  z37 := Tryz.sizeOf107
  v37 := Tryz.zeroValue107
  t46 := Tryz.underlying197
  a46 := Tryz.isAgg197
  z46 := Tryz.sizeOf197
  v46 := Tryz.zeroValue197
  t51 := Tryz.underlying254
  a51 := Tryz.isAgg254
  z51 := Tryz.sizeOf254
  v51 := Tryz.zeroValue254
  t53 := Tryz.underlying182
  a53 := Tryz.isAgg182
  z53 := Tryz.sizeOf182
  v53 := Tryz.zeroValue182
  t171 := Tryz.underlying265
  a171 := Tryz.isAgg265
  z171 := Tryz.sizeOf265
  v171 := Tryz.zeroValue265
  t173 := Tryz.underlying267
  a173 := Tryz.isAgg267
  z173 := Tryz.sizeOf267
  v173 := Tryz.zeroValue267
  t212 := Tryz.underlying300
  a212 := Tryz.isAgg300
  z212 := Tryz.sizeOf300
  v212 := Tryz.zeroValue300
  t213 := Tryz.underlying301
  a213 := Tryz.isAgg301
  z213 := Tryz.sizeOf301
  t232 := Tryz.underlying317
  a232 := Tryz.isAgg317
  z232 := Tryz.sizeOf317
  v232 := Tryz.zeroValue317
  t233 := Tryz.underlying313
  a233 := Tryz.isAgg313
  z233 := Tryz.sizeOf313
  v233 := Tryz.zeroValue313
  g17 := by kernel_rfl
  g18 := by kernel_rfl
  g19 := by kernel_rfl
  i0 := by kernel_rfl
  i2 := by kernel_rfl
  i3 := by kernel_rfl
  i4 := by kernel_rfl
  i5 := by kernel_rfl
  i9 := by kernel_rfl
  i20 := by kernel_rfl
  i37 := by kernel_rfl
  i46 := by kernel_rfl
  i51 := by kernel_rfl
  i53 := by kernel_rfl
  i171 := by kernel_rfl
  i173 := by kernel_rfl
  i212 := by kernel_rfl
  i232 := by kernel_rfl
  i233 := by kernel_rfl
  m17 := by kernel_rfl
  m18 := by kernel_rfl
  m19 := by kernel_rfl }
open Go.RowKit Go.Sort Go.Lib in
theorem Tryz.internal_strconv_FormatInt_10 (n : Int) (h0 : -9223372036854775808 ≤ n) (h1 : n ≤ 9223372036854775807) (w : World) (htab : Lib.TabIs Tryz.prog w "internal/strconv.uint64pow10" .u64 Lib.pow10Tab) :
    Calls Tryz.prog 161 #[.int .i64 n, .int .i64 10] w fun e w' => e = .returned (.string ⟨(Lib.itoa n).toArray⟩) ∧ ∃ k os, w' = grow (w.drewN k) os := Any.internal_strconv_FormatInt_10 Tryz.laysM246 n h0 h1 w htab
def Tryz.lays246_ren : Go.Shelf.Ren := ⟨fun | 246 => 161 | 283 => 224 | 284 => 225 | 285 => 226 | 286 => 227 | 129 => 210 | 317 => 266 | 318 => 267 | 319 => 268 | 320 => 269 | 337 => 287 | 338 => 258 | n => n, fun | 2 => 2 | 3 => 3 | 9 => 9 | 4 => 4 | 171 => 265 | 0 => 0 | 53 => 182 | 37 => 107 | 5 => 5 | 173 => 267 | 212 => 300 | 51 => 254 | 20 => 20 | 213 => 301 | 46 => 197 | 232 => 317 | 233 => 313 | n => n, fun | 17 => 0 | 18 => 2 | 19 => 1 | n => n⟩
theorem Tryz.lays246 : Go.Proofs.Lays.n246 Tryz.prog Tryz.lays246_ren := {
  mixed := by kernel_rfl
  f129 := Tryz.func210.trans (congrArg some (by kernel_rfl))
  f246 := Tryz.func161.trans (congrArg some (by kernel_rfl))
  f283 := Tryz.func224.trans (congrArg some (by kernel_rfl))
  f284 := Tryz.func225.trans (congrArg some (by kernel_rfl))
  f285 := Tryz.func226.trans (congrArg some (by kernel_rfl))
  f286 := Tryz.func227.trans (congrArg some (by kernel_rfl))
  f317 := Tryz.func266.trans (congrArg some (by kernel_rfl))
  f318 := Tryz.func267.trans (congrArg some (by kernel_rfl))
  f319 := Tryz.func268.trans (congrArg some (by kernel_rfl))
  f320 := Tryz.func269.trans (congrArg some (by kernel_rfl))
  f337 := Tryz.func287.trans (congrArg some (by kernel_rfl))
  f338 := Tryz.func258.trans (congrArg some (by kernel_rfl))
  t0 := Tryz.underlying0
  a0 := Tryz.isAgg0
  z0 := Tryz.sizeOf0
  v0 := Tryz.zeroValue0
  t2 := Tryz.underlying2
  a2 := Tryz.isAgg2
  z2 := Tryz.sizeOf2
  v2 := Tryz.zeroValue2
  t3 := Tryz.underlying3
  a3 := Tryz.isAgg3
  z3 := Tryz.sizeOf3
  v3 := Tryz.zeroValue3
  t4 := Tryz.underlying4
  a4 := Tryz.isAgg4
  z4 := Tryz.sizeOf4
  v4 := Tryz.zeroValue4
  t5 := Tryz.underlying5
  a5 := Tryz.isAgg5
  z5 := Tryz.sizeOf5
  v5 := Tryz.zeroValue5
  t9 := Tryz.underlying9
  a9 := Tryz.isAgg9
  z9 := Tryz.sizeOf9
  v9 := Tryz.zeroValue9
  t20 := Tryz.underlying20
  a20 := Tryz.isAgg20
  z20 := Tryz.sizeOf20
  v20 := Tryz.zeroValue20
  t37 := Tryz.underlying107
  a37 := Tryz.isAgg107
  z37 := Tryz.sizeOf107
  v37 := Tryz.zeroValue107
  t46 := Tryz.underlying197
  a46 := Tryz.isAgg197
  z46 := Tryz.sizeOf197
  v46 := Tryz.zeroValue197
  t51 := Tryz.underlying254
  a51 := Tryz.isAgg254
  z51 := Tryz.sizeOf254
  v51 := Tryz.zeroValue254
  t53 := Tryz.underlying182
  a53 := Tryz.isAgg182
  z53 := Tryz.sizeOf182
  v53 := Tryz.zeroValue182
  t171 := Tryz.underlying265
  a171 := Tryz.isAgg265
  z171 := Tryz.sizeOf265
  v171 := Tryz.zeroValue265
  t173 := Tryz.underlying267
  a173 := Tryz.isAgg267
  z173 := Tryz.sizeOf267
  v173 := Tryz.zeroValue267
  t212 := Tryz.underlying300
  a212 := Tryz.isAgg300
  z212 := Tryz.sizeOf300
  v212 := Tryz.zeroValue300
  t213 := Tryz.underlying301
  a213 := Tryz.isAgg301
  z213 := Tryz.sizeOf301
  t232 := Tryz.underlying317
  a232 := Tryz.isAgg317
  z232 := Tryz.sizeOf317
  v232 := Tryz.zeroValue317
  t233 := Tryz.underlying313
  a233 := Tryz.isAgg313
  z233 := Tryz.sizeOf313
  v233 := Tryz.zeroValue313
  g17 := by kernel_rfl
  g18 := by kernel_rfl
  g19 := by kernel_rfl }
open Go.RowKit Go.Sort Go.Lib in
theorem Tryz.internal_strconv_FormatInt_10_small (i : Nat) (hi : i < 100) (w : World) :
    Calls Tryz.prog 161 #[.int .i64 i, .int .i64 10] w fun e w' => e = .returned (.string ⟨(Lib.decDigits i).toArray⟩) ∧ w' = w := Any.internal_strconv_FormatInt_10_small Tryz.lays246 i hi w
def Tryz.laysM243_ren : Go.Shelf.Ren := ⟨fun | 243 => 109 | 246 => 161 | 283 => 224 | 284 => 225 | 285 => 226 | 286 => 227 | 129 => 210 | 317 => 266 | 318 => 267 | 319 => 268 | 320 => 269 | 337 => 287 | 338 => 258 | n => n, fun | 3 => 3 | 9 => 9 | 2 => 2 | 4 => 4 | 171 => 265 | 0 => 0 | 53 => 182 | 37 => 107 | 5 => 5 | 173 => 267 | 212 => 300 | 51 => 254 | 20 => 20 | 213 => 301 | 46 => 197 | 232 => 317 | 233 => 313 | n => n, fun | 17 => 0 | 18 => 2 | 19 => 1 | n => n⟩
theorem Tryz.laysM243 : Go.Proofs.LaysM.n243 Tryz.prog Tryz.laysM243_ren := {
  mixed := by kernel_rfl
  f129 := Tryz.func210.trans (congrArg some (by kernel_rfl))
  f243 := Tryz.func109.trans (congrArg some (by kernel_rfl))
  f246 := Tryz.func161.trans (congrArg some (by kernel_rfl))
  f283 := Tryz.func224.trans (congrArg some (by kernel_rfl))
  f284 := Tryz.func225.trans (congrArg some (by kernel_rfl))
  f285 := Tryz.func226.trans (congrArg some (by kernel_rfl))
  f286 := Tryz.func227.trans (congrArg some (by kernel_rfl))
  f317 := Tryz.func266.trans (congrArg some (by kernel_rfl))
  f318 := Tryz.func267.trans (congrArg some (by kernel_rfl))
  f319 := Tryz.func268.trans (congrArg some (by kernel_rfl))
  f320 := Tryz.func269.trans (congrArg some (by kernel_rfl))
  f337 := Tryz.func287.trans (congrArg some (by kernel_rfl))
  f338 := Tryz.func258.trans (congrArg some (by kernel_rfl))
  t0 := Tryz.underlying0
  a0 := Tryz.isAgg0
  z0 := Tryz.sizeOf0
  v0 := Tryz.zeroValue0
  t2 := Tryz.underlying2
  a2 := Tryz.isAgg2
  z2 := Tryz.sizeOf2
  v2 := Tryz.zeroValue2
  t3 := Tryz.underlying3
  a3 := Tryz.isAgg3
  z3 := Tryz.sizeOf3
  v3 := Tryz.zeroValue3
  t4 := Tryz.underlying4
  a4 := Tryz.isAgg4
  z4 := Tryz.sizeOf4
  v4 := Tryz.zeroValue4
  t5 := Tryz.underlying5
  a5 := Tryz.isAgg5
  z5 := Tryz.sizeOf5
  v5 := Tryz.zeroValue5
  t9 := Tryz.underlying9
  a9 := Tryz.isAgg9
  z9 := Tryz.sizeOf9
  v9 := Tryz.zeroValue9
  t20 := Tryz.underlying20
  a20 := Tryz.isAgg20
  z20 := Tryz.sizeOf20
  v20 := Tryz.zeroValue20
  t37 := Tryz.underlying107
  a37 := Tryz.isAgg107
  z37 := Tryz.sizeOf107
  v37 := Tryz.zeroValue107
  t46 := Tryz.underlying197
  a46 := Tryz.isAgg197
  z46 := Tryz.sizeOf197
  v46 := Tryz.zeroValue197
  t51 := Tryz.underlying254
  a51 := Tryz.isAgg254
  z51 := Tryz.sizeOf254
  v51 := Tryz.zeroValue254
  t53 := Tryz.underlying182
  a53 := Tryz.isAgg182
  z53 := Tryz.sizeOf182
  v53 := Tryz.zeroValue182
  t171 := Tryz.underlying265
  a171 := Tryz.isAgg265
  z171 := Tryz.sizeOf265
  v171 := Tryz.zeroValue265
  t173 := Tryz.underlying267
  a173 := Tryz.isAgg267
  z173 := Tryz.sizeOf267
  v173 := Tryz.zeroValue267
  t212 := Tryz.underlying300
  a212 := Tryz.isAgg300
  z212 := Tryz.sizeOf300
  v212 := Tryz.zeroValue300
  t213 := Tryz.underlying301
  a213 := Tryz.isAgg301
  z213 := Tryz.sizeOf301
  t232 := Tryz.underlying317
  a232 := Tryz.isAgg317
  z232 := Tryz.sizeOf317
  v232 := Tryz.zeroValue317
  t233 := Tryz.underlying313
  a233 := Tryz.isAgg313
  z233 := Tryz.sizeOf313
  v233 := Tryz.zeroValue313
  g17 := by kernel_rfl
  g18 := by kernel_rfl
  g19 := by kernel_rfl
  i0 := by kernel_rfl
  i2 := by kernel_rfl
  i3 := by kernel_rfl
  i4 := by kernel_rfl
  i5 := by kernel_rfl
  i9 := by kernel_rfl
  i20 := by kernel_rfl
  i37 := by kernel_rfl
  i46 := by kernel_rfl
  i51 := by kernel_rfl
  i53 := by kernel_rfl
  i171 := by kernel_rfl
  i173 := by kernel_rfl
  i212 := by kernel_rfl
  i232 := by kernel_rfl
  i233 := by kernel_rfl
  m17 := by kernel_rfl
  m18 := by kernel_rfl
  m19 := by kernel_rfl }
open Go.RowKit Go.Sort Go.Lib in
theorem Tryz.internal_strconv_Itoa (n : Int) (h0 : -9223372036854775808 ≤ n) (h1 : n ≤ 9223372036854775807) (w : World) (htab : Lib.TabIs Tryz.prog w "internal/strconv.uint64pow10" .u64 Lib.pow10Tab) :
    Calls Tryz.prog 109 #[.int .i64 n] w fun e w' => e = .returned (.string ⟨(Lib.itoa n).toArray⟩) ∧ ∃ k os, w' = grow (w.drewN k) os := Any.internal_strconv_Itoa Tryz.laysM243 n h0 h1 w htab
def Tryz.lays243_ren : Go.Shelf.Ren := ⟨fun | 243 => 109 | 246 => 161 | 283 => 224 | 284 => 225 | 285 => 226 | 286 => 227 | 129 => 210 | 317 => 266 | 318 => 267 | 319 => 268 | 320 => 269 | 337 => 287 | 338 => 258 | n => n, fun | 3 => 3 | 9 => 9 | 2 => 2 | 4 => 4 | 171 => 265 | 0 => 0 | 53 => 182 | 37 => 107 | 5 => 5 | 173 => 267 | 212 => 300 | 51 => 254 | 20 => 20 | 213 => 301 | 46 => 197 | 232 => 317 | 233 => 313 | n => n, fun | 17 => 0 | 18 => 2 | 19 => 1 | n => n⟩
theorem Tryz.lays243 : Go.Proofs.Lays.n243 Tryz.prog Tryz.lays243_ren := {
  mixed := by kernel_rfl
  f129 := Tryz.func210.trans (congrArg some (by kernel_rfl))
  f243 := Tryz.func109.trans (congrArg some (by kernel_rfl))
  f246 := Tryz.func161.trans (congrArg some (by kernel_rfl))
  f283 := Tryz.func224.trans (congrArg some (by kernel_rfl))
  f284 := Tryz.func225.trans (congrArg some (by kernel_rfl))
  f285 := Tryz.func226.trans (congrArg some (by kernel_rfl))
  f286 := Tryz.func227.trans (congrArg some (by kernel_rfl))
  f317 := Tryz.func266.trans (congrArg some (by kernel_rfl))
  f318 := Tryz.func267.trans (congrArg some (by kernel_rfl))
  f319 := Tryz.func268.trans (congrArg some (by kernel_rfl))
  f320 := Tryz.func269.trans (congrArg some (by kernel_rfl))
  f337 := Tryz.func287.trans (congrArg some (by kernel_rfl))
  f338 := Tryz.func258.trans (congrArg some (by kernel_rfl))
  t0 := Tryz.underlying0
  a0 := Tryz.isAgg0
  z0 := Tryz.sizeOf0
  v0 := Tryz.zeroValue0
  t2 := Tryz.underlying2
  a2 := Tryz.isAgg2
  z2 := Tryz.sizeOf2
  v2 := Tryz.zeroValue2
  t3 := Tryz.underlying3
  a3 := Tryz.isAgg3
  z3 := Tryz.sizeOf3
  v3 := Tryz.zeroValue3
  t4 := Tryz.underlying4
  a4 := Tryz.isAgg4
  z4 := Tryz.sizeOf4
  v4 := Tryz.zeroValue4
  t5 := Tryz.underlying5
  a5 := Tryz.isAgg5
  z5 := Tryz.sizeOf5
  v5 := Tryz.zeroValue5
  t9 := Tryz.underlying9
  a9 := Tryz.isAgg9
  z9 := Tryz.sizeOf9
  v9 := Tryz.zeroValue9
  t20 := Tryz.underlying20
  a20 := Tryz.isAgg20
  z20 := Tryz.sizeOf20
  v20 := Tryz.zeroValue20
  t37 := Tryz.underlying107
  a37 := Tryz.isAgg107
  z37 := Tryz.sizeOf107
  v37 := Tryz.zeroValue107
  t46 := Tryz.underlying197
  a46 := Tryz.isAgg197
  z46 := Tryz.sizeOf197
  v46 := Tryz.zeroValue197
  t51 := Tryz.underlying254
  a51 := Tryz.isAgg254
  z51 := Tryz.sizeOf254
  v51 := Tryz.zeroValue254
  t53 := Tryz.underlying182
  a53 := Tryz.isAgg182
  z53 := Tryz.sizeOf182
  v53 := Tryz.zeroValue182
  t171 := Tryz.underlying265
  a171 := Tryz.isAgg265
  z171 := Tryz.sizeOf265
  v171 := Tryz.zeroValue265
  t173 := Tryz.underlying267
  a173 := Tryz.isAgg267
  z173 := Tryz.sizeOf267
  v173 := Tryz.zeroValue267
  t212 := Tryz.underlying300
  a212 := Tryz.isAgg300
  z212 := Tryz.sizeOf300
  v212 := Tryz.zeroValue300
  t213 := Tryz.underlying301
  a213 := Tryz.isAgg301
  z213 := Tryz.sizeOf301
  t232 := Tryz.underlying317
  a232 := Tryz.isAgg317
  z232 := Tryz.sizeOf317
  v232 := Tryz.zeroValue317
  t233 := Tryz.underlying313
  a233 := Tryz.isAgg313
  z233 := Tryz.sizeOf313
  v233 := Tryz.zeroValue313
  g17 := by kernel_rfl
  g18 := by kernel_rfl
  g19 := by kernel_rfl }
open Go.RowKit Go.Sort Go.Lib in
theorem Tryz.internal_strconv_Itoa_small (i : Nat) (hi : i < 100) (w : World) :
    Calls Tryz.prog 109 #[.int .i64 i] w fun e w' => e = .returned (.string ⟨(Lib.decDigits i).toArray⟩) ∧ w' = w := Any.internal_strconv_Itoa_small Tryz.lays243 i hi w
def Tryz.laysM171_ren : Go.Shelf.Ren := ⟨fun | 171 => 55 | 243 => 109 | 246 => 161 | 283 => 224 | 284 => 225 | 285 => 226 | 286 => 227 | 129 => 210 | 317 => 266 | 318 => 267 | 319 => 268 | 320 => 269 | 337 => 287 | 338 => 258 | n => n, fun | 3 => 3 | 9 => 9 | 2 => 2 | 4 => 4 | 171 => 265 | 0 => 0 | 53 => 182 | 37 => 107 | 5 => 5 | 173 => 267 | 212 => 300 | 51 => 254 | 20 => 20 | 213 => 301 | 46 => 197 | 232 => 317 | 233 => 313 | n => n, fun | 17 => 0 | 18 => 2 | 19 => 1 | n => n⟩
theorem Tryz.laysM171 : Go.Proofs.LaysM.n171 Tryz.prog Tryz.laysM171_ren := {
  mixed := by kernel_rfl
  f129 := Tryz.func210.trans (congrArg some (by kernel_rfl))
  f171 := Tryz.func55.trans (congrArg some (by kernel_rfl))
  f243 := Tryz.func109.trans (congrArg some (by kernel_rfl))
  f246 := Tryz.func161.trans (congrArg some (by kernel_rfl))
  f283 := Tryz.func224.trans (congrArg some (by kernel_rfl))
  f284 := Tryz.func225.trans (congrArg some (by kernel_rfl))
  f285 := Tryz.func226.trans (congrArg some (by kernel_rfl))
  f286 := Tryz.func227.trans (congrArg some (by kernel_rfl))
  f317 := Tryz.func266.trans (congrArg some (by kernel_rfl))
  f318 := Tryz.func267.trans (congrArg some (by kernel_rfl))
  f319 := Tryz.func268.trans (congrArg some (by kernel_rfl))
  f320 := Tryz.func269.trans (congrArg some (by kernel_rfl))
  f337 := Tryz.func287.trans (congrArg some (by kernel_rfl))
  f338 := Tryz.func258.trans (congrArg some (by kernel_rfl))
  t0 := Tryz.underlying0
  a0 := Tryz.isAgg0
  z0 := Tryz.sizeOf0
  v0 := Tryz.zeroValue0
  t2 := Tryz.underlying2
  a2 := Tryz.isAgg2
  z2 := Tryz.sizeOf2
  v2 := Tryz.zeroValue2
  t3 := Tryz.underlying3
  a3 := Tryz.isAgg3
  z3 := Tryz.sizeOf3
  v3 := Tryz.zeroValue3
  t4 := Tryz.underlying4
  a4 := Tryz.isAgg4
  z4 := Tryz.sizeOf4
  v4 := Tryz.zeroValue4
  t5 := Tryz.underlying5
  a5 := Tryz.isAgg5
  z5 := Tryz.sizeOf5
  v5 := Tryz.zeroValue5
  t9 := Tryz.underlying9
  a9 := Tryz.isAgg9
  z9 := Tryz.sizeOf9
  v9 := Tryz.zeroValue9
  t20 := Tryz.underlying20
  a20 := Tryz.isAgg20
  z20 := Tryz.sizeOf20
  v20 := Tryz.zeroValue20
  t37 := Tryz.underlying107
  a37 := Tryz.isAgg107
  z37 := Tryz.sizeOf107
  v37 := Tryz.zeroValue107
  t46 := Tryz.underlying197
  a46 := Tryz.isAgg197
  z46 := Tryz.sizeOf197
  v46 := Tryz.zeroValue197
  t51 := Tryz.underlying254
  a51 := Tryz.isAgg254
  z51 := Tryz.sizeOf254
  v51 := Tryz.zeroValue254
  t53 := Tryz.underlying182
  a53 := Tryz.isAgg182
  z53 := Tryz.sizeOf182
  v53 := Tryz.zeroValue182
  t171 := Tryz.underlying265
  a171 := Tryz.isAgg265
  z171 := Tryz.sizeOf265
  v171 := Tryz.zeroValue265
  t173 := Tryz.underlying267
  a173 := Tryz.isAgg267
  z173 := Tryz.sizeOf267
  v173 := Tryz.zeroValue267
  t212 := Tryz.underlying300
  a212 := Tryz.isAgg300
  z212 := Tryz.sizeOf300
  v212 := Tryz.zeroValue300
  t213 := Tryz.underlying301
  a213 := Tryz.isAgg301
  z213 := Tryz.sizeOf301
  t232 := Tryz.underlying317
  a232 := Tryz.isAgg317
  z232 := Tryz.sizeOf317
  v232 := Tryz.zeroValue317
  t233 := Tryz.underlying313
  a233 := Tryz.isAgg313
  z233 := Tryz.sizeOf313
  v233 := Tryz.zeroValue313
  g17 := by kernel_rfl
  g18 := by kernel_rfl
  g19 := by kernel_rfl
  i0 := by kernel_rfl
  i2 := by kernel_rfl
  i3 := by kernel_rfl
  i4 := by kernel_rfl
  i5 := by kernel_rfl
  i9 := by kernel_rfl
  i20 := by kernel_rfl
  i37 := by kernel_rfl
  i46 := by kernel_rfl
  i51 := by kernel_rfl
  i53 := by kernel_rfl
  i171 := by kernel_rfl
  i173 := by kernel_rfl
  i212 := by kernel_rfl
  i232 := by kernel_rfl
  i233 := by kernel_rfl
  m17 := by kernel_rfl
  m18 := by kernel_rfl
  m19 := by kernel_rfl }
open Go.RowKit Go.Sort Go.Lib in
theorem Tryz.strconv_Itoa (n : Int) (h0 : -9223372036854775808 ≤ n) (h1 : n ≤ 9223372036854775807) (w : World) (htab : Lib.TabIs Tryz.prog w "internal/strconv.uint64pow10" .u64 Lib.pow10Tab) :
    Calls Tryz.prog 55 #[.int .i64 n] w fun e w' => e = .returned (.string ⟨(Lib.itoa n).toArray⟩) ∧ ∃ k os, w' = grow (w.drewN k) os := Any.strconv_Itoa Tryz.laysM171 n h0 h1 w htab
def Tryz.lays171_ren : Go.Shelf.Ren := ⟨fun | 171 => 55 | 243 => 109 | 246 => 161 | 283 => 224 | 284 => 225 | 285 => 226 | 286 => 227 | 129 => 210 | 317 => 266 | 318 => 267 | 319 => 268 | 320 => 269 | 337 => 287 | 338 => 258 | n => n, fun | 3 => 3 | 9 => 9 | 2 => 2 | 4 => 4 | 171 => 265 | 0 => 0 | 53 => 182 | 37 => 107 | 5 => 5 | 173 => 267 | 212 => 300 | 51 => 254 | 20 => 20 | 213 => 301 | 46 => 197 | 232 => 317 | 233 => 313 | n => n, fun | 17 => 0 | 18 => 2 | 19 => 1 | n => n⟩
theorem Tryz.lays171 : Go.Proofs.Lays.n171 Tryz.prog Tryz.lays171_ren := {
  mixed := by kernel_rfl
  f129 := Tryz.func210.trans (congrArg some (by kernel_rfl))
  f171 := Tryz.func55.trans (congrArg some (by kernel_rfl))
  f243 := Tryz.func109.trans (congrArg some (by kernel_rfl))
  f246 := Tryz.func161.trans (congrArg some (by kernel_rfl))
  f283 := Tryz.func224.trans (congrArg some (by kernel_rfl))
  f284 := Tryz.func225.trans (congrArg some (by kernel_rfl))
  f285 := Tryz.func226.trans (congrArg some (by kernel_rfl))
  f286 := Tryz.func227.trans (congrArg some (by kernel_rfl))
  f317 := Tryz.func266.trans (congrArg some (by kernel_rfl))
  f318 := Tryz.func267.trans (congrArg some (by kernel_rfl))
  f319 := Tryz.func268.trans (congrArg some (by kernel_rfl))
  f320 := Tryz.func269.trans (congrArg some (by kernel_rfl))
  f337 := Tryz.func287.trans (congrArg some (by kernel_rfl))
  f338 := Tryz.func258.trans (congrArg some (by kernel_rfl))
  t0 := Tryz.underlying0
  a0 := Tryz.isAgg0
  z0 := Tryz.sizeOf0
  v0 := Tryz.zeroValue0
  t2 := Tryz.underlying2
  a2 := Tryz.isAgg2
  z2 := Tryz.sizeOf2
  v2 := Tryz.zeroValue2
  t3 := Tryz.underlying3
  a3 := Tryz.isAgg3
  z3 := Tryz.sizeOf3
  v3 := Tryz.zeroValue3
  t4 := Tryz.underlying4
  a4 := Tryz.isAgg4
  z4 := Tryz.sizeOf4
  v4 := Tryz.zeroValue4
  t5 := Tryz.underlying5
  a5 := Tryz.isAgg5
  z5 := Tryz.sizeOf5
  v5 := Tryz.zeroValue5
  t9 := Tryz.underlying9
  a9 := Tryz.isAgg9
  z9 := Tryz.sizeOf9
  v9 := Tryz.zeroValue9
  t20 := Tryz.underlying20
  a20 := Tryz.isAgg20
  z20 := Tryz.sizeOf20
  v20 := Tryz.zeroValue20
  t37 := Tryz.underlying107
  a37 := Tryz.isAgg107
  z37 := Tryz.sizeOf107
  v37 := Tryz.zeroValue107
  t46 := Tryz.underlying197
  a46 := Tryz.isAgg197
  z46 := Tryz.sizeOf197
  v46 := Tryz.zeroValue197
  t51 := Tryz.underlying254
  a51 := Tryz.isAgg254
  z51 := Tryz.sizeOf254
  v51 := Tryz.zeroValue254
  t53 := Tryz.underlying182
  a53 := Tryz.isAgg182
  z53 := Tryz.sizeOf182
  v53 := Tryz.zeroValue182
  t171 := Tryz.underlying265
  a171 := Tryz.isAgg265
  z171 := Tryz.sizeOf265
  v171 := Tryz.zeroValue265
  t173 := Tryz.underlying267
  a173 := Tryz.isAgg267
  z173 := Tryz.sizeOf267
  v173 := Tryz.zeroValue267
  t212 := Tryz.underlying300
  a212 := Tryz.isAgg300
  z212 := Tryz.sizeOf300
  v212 := Tryz.zeroValue300
  t213 := Tryz.underlying301
  a213 := Tryz.isAgg301
  z213 := Tryz.sizeOf301
  t232 := Tryz.underlying317
  a232 := Tryz.isAgg317
  z232 := Tryz.sizeOf317
  v232 := Tryz.zeroValue317
  t233 := Tryz.underlying313
  a233 := Tryz.isAgg313
  z233 := Tryz.sizeOf313
  v233 := Tryz.zeroValue313
  g17 := by kernel_rfl
  g18 := by kernel_rfl
  g19 := by kernel_rfl }
open Go.RowKit Go.Sort Go.Lib in
theorem Tryz.strconv_Itoa_small (i : Nat) (hi : i < 100) (w : World) :
    Calls Tryz.prog 55 #[.int .i64 i] w fun e w' => e = .returned (.string ⟨(Lib.decDigits i).toArray⟩) ∧ w' = w := Any.strconv_Itoa_small Tryz.lays171 i hi w
end Go.Proofs
/-
  WALK: package text: the reader: number.
-/
namespace Go.Proofs.YtdjbejlbmaiocagGreatDoor
open Go.RowKit

theorem digit_val (c : UInt8) (h : 48 ≤ c.toNat ∧ c.toNat ≤ 57) : Lib.digitVal c = some (c.toNat - 48) := by
  unfold Lib.digitVal
  simp [h.1, h.2]
theorem decFrom_dig : ∀ (l : List UInt8) (n : Nat), (∀ c ∈ l, 48 ≤ c.toNat ∧ c.toNat ≤ 57) → ∃ k : Nat, Lib.decFrom n l = some k ∧ l.foldl (fun n c => n * 10 + ((c.toNat : Int) - 48)) (n : Int) = (k : Int)
  | [], n, _ => ⟨n, by simp [Lib.decFrom], rfl⟩
  | c :: l, n, h => by
    have hc := h c (List.mem_cons_self ..)
    obtain ⟨k, h1, h2⟩ := decFrom_dig l (n * 10 + (c.toNat - 48)) fun d hd => h d (List.mem_cons_of_mem _ hd)
    refine ⟨k, ?_, ?_⟩
    · rw [Lib.decFrom, digit_val c hc]; exact h1
    · simp only [List.foldl_cons]
      rw [← h2]
      congr 1
      omega
theorem atoi_dig (l : List UInt8) (h0 : l ≠ []) (h : ∀ c ∈ l, 48 ≤ c.toNat ∧ c.toNat ≤ 57) : Lib.atoi l = some (digV l) := by
  obtain ⟨k, h1, h2⟩ := decFrom_dig l 0 h
  have hd : Lib.decNat l = some k := by
    unfold Lib.decNat
    cases l with
    | nil => exact absurd rfl h0
    | cons a l => simpa using h1
  have hv : digV l = (k : Int) := h2
  rw [hv]
  cases l with
  | nil => exact absurd rfl h0
  | cons a l =>
    have ha := h a (List.mem_cons_self ..)
    have e1 : (a == 45) = false := by
      rw [beq_eq_false_iff_ne]
      intro e
      subst e
      exact absurd ha.1 (by decide)
    have e2 : (a == 43) = false := by
      rw [beq_eq_false_iff_ne]
      intro e
      subst e
      exact absurd ha.1 (by decide)
    simp only [Lib.atoi]
    rw [e1, e2, if_neg (by simp), if_neg (by simp), hd]
    rfl
theorem digV_bound (l : List UInt8) (h4 : l.length ≤ 4) (h : ∀ c ∈ l, 48 ≤ c.toNat ∧ c.toNat ≤ 57) : 0 ≤ digV l ∧ digV l ≤ 9999 := by
  unfold digV
  match l, h4 with
  | [], _ => simp
  | [a], _ => have := h a (by simp); simp; omega
  | [a, b], _ => have := h a (by simp); have := h b (by simp); simp; omega
  | [a, b, c], _ => have := h a (by simp); have := h b (by simp); have := h c (by simp); simp; omega
  | [a, b, c, d], _ => have := h a (by simp); have := h b (by simp); have := h c (by simp); have := h d (by simp); simp; omega
theorem atoi_any (s : ByteArray) (h1 : 1 ≤ s.size ∧ s.size ≤ 4) (hd : ∀ c ∈ s.data.toList, 48 ≤ c.toNat ∧ c.toNat ≤ 57) (w : World) :
    Calls Tryz.prog 274 #[.string s] w fun e w' => e = .returned (.tuple #[.int .i64 (digV s.data.toList), .nilIface]) ∧ Below w.heap.size w w' := by
  have hne : s.data.toList ≠ [] := by
    intro e
    have : s.data.toList.length = 0 := by rw [e]; rfl
    have h2 : s.data.toList.length = s.size := Array.length_toList
    omega
  refine (Tryz.strconv_Atoi s _ (by omega) (atoi_dig _ hne hd) w).mono ?_
  rintro e w' ⟨rfl, t, rfl⟩
  exact ⟨rfl, Lib.bytesWorld_below _ _ _⟩
theorem head_ok {N R M : Nat} {en : Int} {w : World} {l : List Tok} (h : Rd N R M en w l) (hk : (headT en l).kind = 2) : (1 ≤ (headT en l).text.size ∧ (headT en l).text.size ≤ 4) ∧ ∀ c ∈ (headT en l).text.data.toList, 48 ≤ c.toNat ∧ c.toNat ≤ 57 := by
  obtain ⟨_, v, _, _, _, _, _, ht, _⟩ := h
  cases l with
  | nil => exact absurd hk (by show ¬ (0 : Int) = 2; decide)
  | cons t r => exact (ht.2 t (List.mem_cons_self ..)).2 hk
theorem kind_some {en : Int} {l : List Tok} (h : ((headT en l).kind == 2) = true) : l ≠ [] := by
  intro hl
  subst hl
  have h2 : ((0 : Int) == 2) = true := h
  simp at h2

theorem solid_minus : solid ⟨#[45]⟩ := by unfold solid; simp [go_sem]
set_option maxHeartbeats 1600000 in
set_option maxRecDepth 100000 in
theorem number_any (N R M : Nat) (en : Int) (w : World) (l : List Tok) (h : Rd N R M en w l) :
    Calls Tryz.prog 238 #[.pointer (some ⟨R, 0, none⟩)] w (PostR (numberP en l) (fun i v _ => v = .int .i64 i ∧ -9999 ≤ i ∧ i ≤ 9999) N R M en (fun k => k = R) w) := by
  have hf2 := tokF2 (headT en l)
  have hf0 := tokF0 (headT en l)
  have HB : Hid (Rd N R M en w l) := h
  obtain ⟨P, hP⟩ : ∃ P, numberP en l = P := ⟨_, rfl⟩
  have HP : Hid (numberP en l = P) := hP
  rw [hP]
  cases hm : ((headT en l).text.toList == [45])
  · have HM : Hid (((headT en l).text.toList == [45]) = false) := hm
    cases hK : ((headT en l).kind == 2)
    · have HP2 : Hid (P = (passP en false l).bind fun t r => .ok (1 * digV t.text.data.toList) r) := by show _ = _; rw [← hP]; unfold numberP; rw [hm, hK]; rfl
      clear hP h
      go_enter Tryz.func238, Tryz.ntmps238
      go_wp2_with fail
      refine (ahead_any N R M en _ l HB.out).mono ?_
      rintro e w1 ⟨rfl, hb1⟩
      have HR1 : Hid (Rd N R M en w1 l) := HB.out.below hb1
      have HF1 : Hid (Fr (fun k => k = R) w w1) := Fr.below hb1
      unfold tokA
      clear hb1
      go_wp2_with fail
      refine (ahead_any N R M en _ l HR1.out).mono ?_
      rintro e w2 ⟨rfl, hb2⟩
      have HR2 : Hid (Rd N R M en w2 l) := HR1.out.below hb2
      have HF2 : Hid (Fr (fun k => k = R) w w2) := HF1.out.trans (Fr.below hb2)
      unfold tokA
      clear hb2 hm
      go_wp2_with fail
      refine (pass_any N R M en false w2 l HR2.out (fun hb => by cases hb)).mono ?_
      intro e w3 hp
      obtain ⟨rfl, hfr⟩ := hp
      have hfr2 := HF2.out.trans hfr
      go_wp2
      exact ⟨rfl, by rw [HP2.out]; exact ⟨rfl, hfr2⟩⟩
    · have HP2 : Hid (P = (passP en true l).bind fun t r => .ok (1 * digV t.text.data.toList) r) := by show _ = _; rw [← hP]; unfold numberP; rw [hm, hK]; rfl
      have HL : Hid (l ≠ []) := kind_some hK
      obtain ⟨hd1, hd2⟩ := head_ok h (by simpa using hK)
      have HD2 : Hid (∀ c ∈ (headT en l).text.data.toList, 48 ≤ c.toNat ∧ c.toNat ≤ 57) := hd2
      have HD1 : Hid (1 ≤ (headT en l).text.size ∧ (headT en l).text.size ≤ 4) := hd1
      clear hP h hd1 hd2
      go_enter Tryz.func238, Tryz.ntmps238
      go_wp2_with fail
      refine (ahead_any N R M en _ l HB.out).mono ?_
      rintro e w1 ⟨rfl, hb1⟩
      have HR1 : Hid (Rd N R M en w1 l) := HB.out.below hb1
      have HF1 : Hid (Fr (fun k => k = R) w w1) := Fr.below hb1
      unfold tokA
      clear hb1
      go_wp2_with fail
      refine (ahead_any N R M en _ l HR1.out).mono ?_
      rintro e w2 ⟨rfl, hb2⟩
      have HR2 : Hid (Rd N R M en w2 l) := HR1.out.below hb2
      have HF2 : Hid (Fr (fun k => k = R) w w2) := HF1.out.trans (Fr.below hb2)
      unfold tokA
      clear hb2 hm
      go_wp2_with fail
      refine (pass_any N R M en true w2 l HR2.out (fun _ => HL.out)).mono ?_
      intro e w3 hp
      obtain ⟨v, rfl, rfl, hrd, hfr⟩ := hp
      have HFR : Hid (Fr (fun k => k = R) w w3) := HF2.out.trans hfr
      have HRD : Hid (Rd N R M en w3 l.tail) := hrd
      clear hfr hrd
      unfold tokA
      go_wp2_with fail
      refine (atoi_any _ HD1.out HD2.out _).mono ?_
      rintro e w4 ⟨rfl, hb4⟩
      obtain ⟨hv1, hv2⟩ := digV_bound (headT en l).text.data.toList (by have := HD1.out.2; have h2 : (headT en l).text.data.toList.length = (headT en l).text.size := Array.length_toList; omega) HD2.out
      obtain ⟨V, hV⟩ : ∃ V, digV (headT en l).text.data.toList = V := ⟨_, rfl⟩
      have HV : Hid (digV (headT en l).text.data.toList = V) := hV
      rw [hV] at hv1 hv2 ⊢
      have HR4 : Hid (Rd N R M en w4 l.tail) := HRD.out.below hb4
      have HF4 : Hid (Fr (fun k => k = R) w w4) := HFR.out.trans (Fr.below hb4)
      clear hb4 hV
      go_wp2
      go_ret
      rw [HP2.out]
      exact ⟨_, rfl, ⟨by rw [HV.out, Int.one_mul]; rfl, by rw [HV.out]; omega, by rw [HV.out]; omega⟩, HR4.out, HF4.out⟩
  · have hmin : (⟨#[45]⟩ : ByteArray).toList = [45] := by simp [go_sem]
    have HSK : Hid (skipP en ⟨#[45]⟩ l = .ok (headT en l) l.tail) := by show _ = _; unfold skipP passP; rw [hmin, hm]; rfl
    obtain ⟨q, hq⟩ : ∃ q, l.tail = q := ⟨_, rfl⟩
    have HQ : Hid (l.tail = q) := hq
    have hg2 := tokF2 (headT en q)
    have hg0 := tokF0 (headT en q)
    have HOKQ : Hid (∀ t ∈ q, TokOk t) := by
      obtain ⟨_, v, _, _, _, _, _, ht, _⟩ := h
      intro t htq
      rw [← hq] at htq
      exact ht.2 t (List.mem_of_mem_tail htq)
    have HPQ : Hid (P = (passP en (((headT en q).kind == 2) && (!((headT en q).text.toList == [48]))) q).bind fun t r => .ok (-1 * digV t.text.data.toList) r) := by
      show _ = _; rw [← hP]; unfold numberP; rw [hm, if_pos rfl, HSK.out, ← hq]; rfl
    clear hP h hq hmin
    go_enter Tryz.func238, Tryz.ntmps238
    go_wp2_with fail
    refine (ahead_any N R M en _ l HB.out).mono ?_
    rintro e w1 ⟨rfl, hb1⟩
    have HR1 : Hid (Rd N R M en w1 l) := HB.out.below hb1
    have HF1 : Hid (Fr (fun k => k = R) w w1) := Fr.below hb1
    unfold tokA
    clear hb1
    go_wp2_with fail
    refine (rskip_any N R M en ⟨#[45]⟩ solid_minus w1 l HR1.out).mono ?_
    intro e w2 hp
    rw [HSK.out] at hp
    obtain ⟨v, rfl, rfl, hrd, hfr⟩ := hp
    have HR2 : Hid (Rd N R M en w2 q) := by rw [← HQ.out]; exact hrd
    have HF2 : Hid (Fr (fun k => k = R) w w2) := HF1.out.trans hfr
    clear hrd hfr hm hf0 hf2
    cases hK : ((headT en q).kind == 2)
    · have HP2 : Hid (P = (passP en false q).bind fun t r => .ok (-1 * digV t.text.data.toList) r) := by show _ = _; rw [HPQ.out, hK]; rfl
      go_wp2_with fail
      refine (ahead_any N R M en _ q HR2.out).mono ?_
      rintro e w3 ⟨rfl, hb3⟩
      have HR3 : Hid (Rd N R M en w3 q) := HR2.out.below hb3
      have HF3 : Hid (Fr (fun k => k = R) w w3) := HF2.out.trans (Fr.below hb3)
      unfold tokA
      clear hb3
      go_wp2_with fail
      refine (pass_any N R M en false w3 q HR3.out (fun hb => by cases hb)).mono ?_
      intro e w4 hp
      obtain ⟨rfl, hfr⟩ := hp
      have hfr2 := HF3.out.trans hfr
      go_wp2
      exact ⟨rfl, by rw [HP2.out]; exact ⟨rfl, hfr2⟩⟩
    · have HL : Hid (q ≠ []) := kind_some hK
      have hd : (1 ≤ (headT en q).text.size ∧ (headT en q).text.size ≤ 4) ∧ ∀ c ∈ (headT en q).text.data.toList, 48 ≤ c.toNat ∧ c.toNat ≤ 57 := head_ok HR2.out (by simpa using hK)
      have HD2 : Hid (∀ c ∈ (headT en q).text.data.toList, 48 ≤ c.toNat ∧ c.toNat ≤ 57) := hd.2
      have HD1 : Hid (1 ≤ (headT en q).text.size ∧ (headT en q).text.size ≤ 4) := hd.1
      clear hd
      cases hz : ((headT en q).text.toList == [48])
      rotate_left
      · have HP2 : Hid (P = (passP en false q).bind fun t r => .ok (-1 * digV t.text.data.toList) r) := by show _ = _; rw [HPQ.out, hK, hz]; rfl
        go_wp2_with fail
        refine (ahead_any N R M en _ q HR2.out).mono ?_
        rintro e w3 ⟨rfl, hb3⟩
        have HR3 : Hid (Rd N R M en w3 q) := HR2.out.below hb3
        have HF3 : Hid (Fr (fun k => k = R) w w3) := HF2.out.trans (Fr.below hb3)
        unfold tokA
        clear hb3
        go_wp2_with fail
        refine (ahead_any N R M en _ q HR3.out).mono ?_
        rintro e w4 ⟨rfl, hb4⟩
        have HR4 : Hid (Rd N R M en w4 q) := HR3.out.below hb4
        have HF4 : Hid (Fr (fun k => k = R) w w4) := HF3.out.trans (Fr.below hb4)
        unfold tokA
        clear hb4
        go_wp2_with fail
        refine (pass_any N R M en false w4 q HR4.out (fun hb => by cases hb)).mono ?_
        intro e w5 hp
        obtain ⟨rfl, hfr⟩ := hp
        have hfr2 := HF4.out.trans hfr
        go_wp2
        exact ⟨rfl, by rw [HP2.out]; exact ⟨rfl, hfr2⟩⟩
      · have HP2 : Hid (P = (passP en true q).bind fun t r => .ok (-1 * digV t.text.data.toList) r) := by show _ = _; rw [HPQ.out, hK, hz]; rfl
        go_wp2_with fail
        refine (ahead_any N R M en _ q HR2.out).mono ?_
        rintro e w3 ⟨rfl, hb3⟩
        have HR3 : Hid (Rd N R M en w3 q) := HR2.out.below hb3
        have HF3 : Hid (Fr (fun k => k = R) w w3) := HF2.out.trans (Fr.below hb3)
        unfold tokA
        clear hb3
        go_wp2_with fail
        refine (ahead_any N R M en _ q HR3.out).mono ?_
        rintro e w4 ⟨rfl, hb4⟩
        have HR4 : Hid (Rd N R M en w4 q) := HR3.out.below hb4
        have HF4 : Hid (Fr (fun k => k = R) w w4) := HF3.out.trans (Fr.below hb4)
        unfold tokA
        clear hb4
        go_wp2_with fail
        refine (pass_any N R M en true w4 q HR4.out (fun _ => HL.out)).mono ?_
        intro e w5 hp
        obtain ⟨v, rfl, rfl, hrd, hfr⟩ := hp
        have HFR : Hid (Fr (fun k => k = R) w w5) := HF4.out.trans hfr
        have HRD : Hid (Rd N R M en w5 q.tail) := hrd
        clear hfr hrd
        unfold tokA
        go_wp2_with fail
        refine (atoi_any _ HD1.out HD2.out _).mono ?_
        rintro e w6 ⟨rfl, hb6⟩
        obtain ⟨hv1, hv2⟩ := digV_bound (headT en q).text.data.toList (by have := HD1.out.2; have h2 : (headT en q).text.data.toList.length = (headT en q).text.size := Array.length_toList; omega) HD2.out
        obtain ⟨V, hV⟩ : ∃ V, digV (headT en q).text.data.toList = V := ⟨_, rfl⟩
        have HV : Hid (digV (headT en q).text.data.toList = V) := hV
        rw [hV] at hv1 hv2 ⊢
        have HR6 : Hid (Rd N R M en w6 q.tail) := HRD.out.below hb6
        have HF6 : Hid (Fr (fun k => k = R) w w6) := HFR.out.trans (Fr.below hb6)
        clear hb6 hV
        go_wp2
        go_ret
        rw [HP2.out]
        exact ⟨_, rfl, ⟨by rw [HV.out]; first | rfl | (rw [Int.neg_one_mul]; rfl), by rw [HV.out]; omega, by rw [HV.out]; omega⟩, HR6.out, HF6.out⟩
end Go.Proofs.YtdjbejlbmaiocagGreatDoor
/-
  The map of names; WALK: package text: the reader: name.
-/
namespace Go.Proofs.YtdjbejlbmaiocagGreatDoor
open Go.RowKit Go.Maps

def nmD : List ByteArray → DataW Unit := fun l => (l.zipIdx).foldl (fun D p => D.put (.string p.1.data.toList) (.lit (.int .i64 (p.2 : Int)))) (.map [])
theorem nmD_next (l : List ByteArray) (n : ByteArray) : nmD (l ++ [n]) = (nmD l).put (.string n.data.toList) (.lit (.int .i64 (l.length : Int))) := by
  unfold nmD
  rw [List.zipIdx_append, List.foldl_append]
  simp
theorem rev_ind {α : Type} {P : List α → Prop} (h0 : P []) (h1 : ∀ l a, P l → P (l ++ [a])) : ∀ l, P l := by
  intro l
  rw [← List.reverse_reverse l]
  generalize l.reverse = m
  induction m with
  | nil => exact h0
  | cons a m ih => rw [List.reverse_cons]; exact h1 _ _ ih
theorem nmD_map (l : List ByteArray) : IsMap (nmD l) := by
  induction l using rev_ind with
  | h0 => exact isMap_empty
  | h1 l n ih => rw [nmD_next]; exact ih.put _ _
theorem nmD_look (s : ByteArray) (l : List ByteArray) : Maps.has (nmD l) (.string s.data.toList) = (nameAt l s).2 ∧ (nmD l).atKey (.string s.data.toList) (.lit (.int .i64 0)) = .lit (.int .i64 (nameAt l s).1) := by
  induction l using rev_ind with
  | h0 => exact ⟨rfl, rfl⟩
  | h1 l n ih =>
    rw [nmD_next, nameAt_next]
    by_cases h : n.data.toList = s.data.toList
    · rw [if_pos h, h]
      exact ⟨has_put_same (k := .string s.data.toList) (nmD_map l) (show WideAt.IsKeyLit (.string s.data.toList) from trivial) _, atKey_put_same (k := .string s.data.toList) (nmD_map l) (show WideAt.IsKeyLit (.string s.data.toList) from trivial) _ _⟩
    · rw [if_neg h, has_put_other (fun e => h (Lit.string.inj e).symm), atKey_put_other (fun e => h (Lit.string.inj e).symm)]
      exact ih
/-- The names that have come, in their map. -/
def NmS (w : World) (M : Nat) (l : List ByteArray) : Prop := w.ownsMap Tryz.prog 9 (plainElem Tryz.prog 3) M l.length (nmD l)
theorem NmS.old {w w' : World} {M : Nat} {l : List ByteArray} (h : NmS w M l) (hb : w'.heap[M]? = w.heap[M]?) : NmS w' M l := by
  obtain ⟨es, clock, hm, F, hs, hd⟩ := h
  exact ⟨es, clock, hb.trans hm, F, hs, hd⟩
theorem NmS.lt {w : World} {M : Nat} {l : List ByteArray} (h : NmS w M l) : M < w.heap.size := by
  obtain ⟨es, clock, hm, _⟩ := h
  exact (Array.getElem?_eq_some_iff.1 hm).1
theorem Tryz.underNames : Tryz.prog.underlying 175 = some (.map 9 3) := by kernel_rfl
theorem Tryz.strKeyed : Keyed Tryz.prog 9 := string_keyed Tryz.underlying9
theorem Tryz.intZero (w : World) : (zeroValue 3).run Tryz.prog w = .ok (.int .i64 0) w := by kernel_rfl
theorem look_names (w : World) (M : Nat) (l : List ByteArray) (s : ByteArray) (hs : s.size ≤ maxLen) (h : NmS w M l) :
    Sem.run Tryz.prog (Instr.lookup 175 (.map (some M)) (.string s) true) w = .ok (.tuple #[.int .i64 (nameAt l s).1, .bool (nameAt l s).2]) w := by
  obtain ⟨v, ps, hrun, hv⟩ := h.look_ok Tryz.strKeyed Tryz.underNames (Tryz.intZero w) (plainElem_int (H := Unit) Tryz.underlying3 (by decide)) (WideMaps.keyOf_string_mk Tryz.underlying9 hs)
  obtain ⟨a, rfl, ha, _⟩ := plainElem_int_inv Tryz.underlying3 hv
  obtain ⟨h1, h2⟩ := nmD_look s l
  rw [h2] at ha
  have h3 := congrArg Prod.fst ha
  have h4 : (nameAt l s).1 = a := by cases h3; rfl
  rw [hrun, h1, h4]

theorem held_call9 {w2 Y w3 : World} {A : Prop} (h : Below w2.heap.size w2 Y ∧ A) (hb : Below Y.heap.size Y w3) : Below w2.heap.size w2 w3 := h.1.trans (hb.mono h.1.size)
set_option maxHeartbeats 1600000 in
set_option maxRecDepth 100000 in
theorem name_any (N R M : Nat) (en : Int) (names : List ByteArray) (w : World) (l : List Tok) (h : Rd N R M en w l) (hn : NmS w M names) (hne : ∀ n ∈ names, n.data.toList ≠ []) :
    Calls Tryz.prog 242 #[.pointer (some ⟨R, 0, none⟩)] w (PostR (nameP en names l) (fun i v _ => v = .int .i64 i) N R M en (fun k => k = R) w) := by
  have hf2 := tokF2 (headT en l)
  have HB : Hid (Rd N R M en w l) := h
  have HSZ : Hid ((headT en l).text.size ≤ maxLen) := head_size h
  have HML : Hid (M < w.heap.size) := hn.lt
  have HNM : Hid (NmS w M names) := hn
  obtain ⟨ri, hri⟩ : ∃ ri, (nameAt names (headT en l).text).1 = ri := ⟨_, rfl⟩
  obtain ⟨rb, hrb⟩ : ∃ rb, (nameAt names (headT en l).text).2 = rb := ⟨_, rfl⟩
  obtain ⟨nb, hnb⟩ : ∃ nb, nameB (headT en l).text = nb := ⟨_, rfl⟩
  have HNB : Hid (nameB (headT en l).text = nb) := hnb
  have HLK : Hid (∀ Y : World, Below w.heap.size w Y → Sem.run Tryz.prog (Instr.lookup 175 (.map (some M)) (.string (headT en l).text) true) Y = .ok (.tuple #[.int .i64 ri, .bool rb]) Y) := by
    intro Y hY
    rw [look_names Y M names _ HSZ.out (HNM.out.old (hY.block M HML.out)), hri, hrb]
  have HL : Hid (rb = true → l ≠ []) := by
    intro hb hl
    subst hl
    have h2 : (nameAt names ByteArray.empty).2 = rb := hrb
    rw [nameAt_empty names hne, hb] at h2
    cases h2
  obtain ⟨P, hP⟩ : ∃ P, nameP en names l = P := ⟨_, rfl⟩
  have HP : Hid (P = if rb then (passP en true l).bind fun _ r => .ok ri r else if nb then .bad (headT en l).place 5 else .bad (headT en l).place 1) := by
    show _ = _; rw [← hP]; unfold nameP; rw [hri, hrb, hnb]
  rw [hP]
  obtain ⟨_, v, hR, _⟩ := h
  have c2 : w.cell? ⟨R, 2, none⟩ = some (.map (some M)) := by rw [Lib.cell_of_heap hR]; rfl
  have hRl : R < w.heap.size := (Array.getElem?_eq_some_iff.1 hR).1
  have HAH : Hid (∀ Y : World, Below w.heap.size w Y → Calls Tryz.prog 175 #[.pointer (some ⟨R, 0, none⟩)] Y fun e w' => e = .returned (.agg #[.int .i64 (headT en l).kind, .int .i64 (headT en l).place, .string (headT en l).text]) ∧ Below Y.heap.size Y w') := fun Y hY => ahead_any N R M en Y l (HB.out.below hY)
  have hlk0 := HLK.out _ (Below.refl _ _).drew
  clear hri hrb hnb hP hR hn hne
  go_enter Tryz.func242, Tryz.ntmps242
  go_wp2_with fail
  go_region_held3 (fun w' => Below w.heap.size w w' ∧ w'.cell? ⟨R, 2, none⟩ = some (.map (some M)) ∧ Sem.run Tryz.prog (Instr.lookup 175 (.map (some M)) (.string (headT en l).text) true) w' = .ok (.tuple #[.int .i64 ri, .bool rb]) w')
    ((refine (fun (hB : Below w.heap.size w _) => ⟨hB, (hB.cell (p := ⟨R, 2, none⟩) hRl).trans c2, HLK.out _ hB⟩ : Below w.heap.size w _ → _) ?_; first | exact (Below.refl _ _).drew | exact hB1 | exact (show Below w.heap.size w _ ∧ _ ∧ _ by assumption).1))
    (first
      | (go_at_call 175; refine (HAH.out _ (show Below w.heap.size w _ ∧ _ ∧ _ by assumption).1).mono ?_; rintro e w1 ⟨rfl, hbq⟩; have hB1 := held_call9 (by assumption) hbq))
  have HR1 : Hid (Rd N R M en w1 l) := HB.out.below hB1
  have HF1 : Hid (Fr (fun k => k = R) w w1) := Fr.below hB1
  cases rb
  · go_wp2_with fail
    refine (ahead_any N R M en _ l HR1.out).mono ?_
    rintro e w2 ⟨rfl, hb2⟩
    have HR2 : Hid (Rd N R M en w2 l) := HR1.out.below hb2
    have HF2 : Hid (Fr (fun k => k = R) w w2) := HF1.out.trans (Fr.below hb2)
    unfold tokA
    clear hb2
    go_wp2_with fail
    refine (risname_any _ HSZ.out _).mono ?_
    rintro e w3 ⟨rfl, hb3⟩
    rw [HNB.out]
    have HR3 : Hid (Rd N R M en w3 l) := HR2.out.below hb3
    have HF3 : Hid (Fr (fun k => k = R) w w3) := HF2.out.trans (Fr.below hb3)
    clear hb3
    cases nb
    · have HP2 : Hid (P = .bad (headT en l).place 1) := HP.out
      go_wp2_with fail
      refine (pass_any N R M en false w3 l HR3.out (fun hb => by cases hb)).mono ?_
      intro e w4 hp
      obtain ⟨rfl, hfr⟩ := hp
      have hfr2 := HF3.out.trans hfr
      go_wp2
      exact ⟨rfl, by rw [HP2.out]; exact ⟨rfl, hfr2⟩⟩
    · have HP2 : Hid (P = .bad (headT en l).place 5) := HP.out
      go_wp2_with fail
      refine (giveup_any N R M en 5 _ l HR3.out).mono ?_
      rintro e w4 ⟨rfl, hb4⟩
      have hfr2 := HF3.out.trans (Fr.below hb4)
      go_wp2
      exact ⟨rfl, by rw [HP2.out]; exact ⟨rfl, hfr2⟩⟩
  · have HP2 : Hid (P = (passP en true l).bind fun _ r => .ok ri r) := HP.out
    go_wp2_with fail
    refine (pass_any N R M en true w1 l HR1.out (fun _ => HL.out (by first | rfl | trivial))).mono ?_
    intro e w4 hp
    obtain ⟨v, rfl, rfl, hrd, hfr⟩ := hp
    have hfr2 := HF1.out.trans hfr
    unfold tokA
    go_wp2
    go_ret
    rw [HP2.out]
    exact ⟨_, rfl, rfl, hrd, hfr2⟩
end Go.Proofs.YtdjbejlbmaiocagGreatDoor
