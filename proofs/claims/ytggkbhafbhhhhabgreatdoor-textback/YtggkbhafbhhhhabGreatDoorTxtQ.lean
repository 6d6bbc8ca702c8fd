/-
  A model that is being read, in memory.
-/
import Derived.Test.YtggkbhafbhhhhabGreatDoorTxtP
namespace Go.Proofs.YtggkbhafbhhhhabGreatDoor
open Go.RowKit

def varC (v : MVar) : List Value := [.string v.name, .int .i64 v.lo, .int .i64 v.hi]
def conC (vv vc vr vl : Value) (c : MCon) : List Value := [.int .i64 c.kind, vv, vc, .int .i64 c.n, vr, vl]
theorem apart9 {w : World} {b1 b2 n1 n2 s1 s2 : Nat} {e1 e2 : TypeId} {x v : Value} {xs vs : List Value} (h : w.ownsRow b1 e1 s1 x n1 xs) (k : w.ownsRow b2 e2 s2 v n2 vs) (he : e1 ≠ e2) : x.ownBlock = none ∨ x.ownBlock ≠ v.ownBlock := by
  rcases h.2 with ⟨rfl, _⟩ | ⟨g, cap, cur, rfl, _, hg, _⟩
  · exact .inl rfl
  · refine .inr fun e => ?_
    rcases k.2 with ⟨rfl, _⟩ | ⟨g', cap', cur', rfl, _, hg', _⟩
    · cases e
    · have : g = g' := Option.some.inj e
      subst this
      rw [hg] at hg'
      injection hg' with h2
      injection h2 with _ h3
      exact he h3
section
variable {B : Nat} {w w' : World}
theorem LSr.kept {b2 n s : Nat} {e : TypeId} {v x : Value} {xs : List Value} {acc : List (List Int)} {o : Obj} (h : LSr B B w x acc) (k : w.ownsRow b2 e s v n xs) (he1 : 3 ≠ e) (he2 : 50 ≠ e) (hg : (w.alloc o).grownBy w' v.ownBlock) : LSr B B w' x acc := by
  obtain ⟨cells, h1, h2⟩ := h
  refine ⟨cells, (h1.alloc _).kept hg (apart9 h1 k he2), fun i r hr => ?_⟩
  obtain ⟨y, hy, ho⟩ := h2 i r hr
  exact ⟨y, hy, (ho.alloc _).kept hg (apart9 ho k he1)⟩
theorem ConR.kept {b2 n s : Nat} {e : TypeId} {v : Value} {xs : List Value} {vv vc vr vl : Value} {c : MCon} {o : Obj} (h : ConR B w vv vc vr vl c) (k : w.ownsRow b2 e s v n xs) (he1 : 3 ≠ e) (he2 : 50 ≠ e) (he3 : 76 ≠ e) (hg : (w.alloc o).grownBy w' v.ownBlock) : ConR B w' vv vc vr vl c :=
  ⟨(h.1.alloc _).kept hg (apart9 h.1 k he1), (h.2.1.alloc _).kept hg (apart9 h.2.1 k he1), h.2.2.1.kept k he1 he2 hg, (h.2.2.2.alloc _).kept hg (apart9 h.2.2.2 k he3)⟩
end
/-- Constraints that are being gathered. -/
def LCr (B : Nat) (w : World) (v : Value) (acc : List MCon) : Prop :=
  ∃ cells, w.ownsRow B 54 6 v acc.length cells ∧ ∀ (i : Nat) (c : MCon), acc[i]? = some c → ∃ vv vc vr vl, (∀ j, j < 6 → cells[i * 6 + j]? = (conC vv vc vr vl c)[j]?) ∧ ConR B w vv vc vr vl c
theorem LCr.none (B : Nat) (w : World) : LCr B w (.slice Option.none 0 0) [] := ⟨[], World.ownsRow_nil _ _ _ _, fun i r h => by simp at h⟩
theorem LCr.form {B : Nat} {w : World} {v : Value} {acc : List MCon} (h : LCr B w v acc) : ∃ a c, v = .slice a acc.length c := by
  obtain ⟨cells, h1, _⟩ := h
  exact own_form h1
theorem LCr.fr {X : Nat → Prop} {B : Nat} {w w' : World} {v : Value} {acc : List MCon} (h : LCr B w v acc) (hf : Fr X w w') (hX : ∀ k, X k → k < B) : LCr B w' v acc := by
  obtain ⟨cells, h1, h2⟩ := h
  refine ⟨cells, own_fr h1 hf hX, fun i r hr => ?_⟩
  obtain ⟨vv, vc, vr, vl, hc, ho⟩ := h2 i r hr
  exact ⟨vv, vc, vr, vl, hc, ho.fr hf hX⟩
theorem ConR.set2 {B : Nat} {w : World} {vv vc vr vl : Value} {c : MCon} {t : TypeId} (h : ConR B w vv vc vr vl c) {C : Nat} {cs : Array Value} (hC : w.heap[C]? = some (.cells cs t)) (h1 : t ≠ 3) (h2 : t ≠ 50) (h3 : t ≠ 76) (i : Nat) (u : Value) : ConR B (w.setCell ⟨C, i, Option.none⟩ u) vv vc vr vl c :=
  ⟨own_set h.1 hC h1 i u, own_set h.2.1 hC h1 i u, h.2.2.1.set hC h1 h2 i u, own_set h.2.2.2 hC h3 i u⟩
theorem LCr.set {B : Nat} {w : World} {v : Value} {acc : List MCon} (h : LCr B w v acc) {C : Nat} {cs : Array Value} (hC : w.heap[C]? = some (.cells cs 25)) (i : Nat) (u : Value) : LCr B (w.setCell ⟨C, i, Option.none⟩ u) v acc := by
  obtain ⟨cells, h1, h2⟩ := h
  refine ⟨cells, own_set h1 hC (by decide) i u, fun j r hr => ?_⟩
  obtain ⟨vv, vc, vr, vl, hc, ho⟩ := h2 j r hr
  exact ⟨vv, vc, vr, vl, hc, ho.set2 hC (by decide) (by decide) (by decide) i u⟩
theorem LCr.push {B : Nat} {w w' : World} {v v' vv vc vr vl : Value} {c : MCon} {acc : List MCon} {cells : List Value} {o : Obj} (h : w.ownsRow B 54 6 v acc.length cells)
    (hc : ∀ (i : Nat) (c : MCon), acc[i]? = some c → ∃ vv vc vr vl, (∀ j, j < 6 → cells[i * 6 + j]? = (conC vv vc vr vl c)[j]?) ∧ ConR B w vv vc vr vl c) (hx : ConR B w vv vc vr vl c)
    (h' : w'.ownsRow B 54 6 v' (acc.length + 1) (cells ++ conC vv vc vr vl c)) (hg : (w.alloc o).grownBy w' v.ownBlock) : LCr B w' v' (acc ++ [c]) := by
  have hlen : cells.length = acc.length * 6 := h.1
  refine ⟨cells ++ conC vv vc vr vl c, by rw [List.length_append]; exact h', fun i r hr => ?_⟩
  by_cases hi : i < acc.length
  · rw [List.getElem?_append_left hi] at hr
    obtain ⟨x1, x2, x3, x4, hy, ho⟩ := hc i r hr
    exact ⟨x1, x2, x3, x4, fun j hj => by rw [List.getElem?_append_left (by omega)]; exact hy j hj, ho.kept h (by decide) (by decide) (by decide) hg⟩
  · rw [List.getElem?_append_right (by omega)] at hr
    have hi0 : i - acc.length = 0 := by
      have := (List.getElem?_eq_some_iff.1 hr).1
      simp at this; omega
    rw [hi0] at hr
    cases hr
    refine ⟨vv, vc, vr, vl, fun j hj => ?_, hx.kept h (by decide) (by decide) (by decide) hg⟩
    rw [List.getElem?_append_right (by omega), show i * 6 + j - cells.length = j by omega]
/-- What is so while a model is read. -/
structure ModSt (N R M : Nat) (en : Int) (w0 w : World) (q : List Tok) (names : List ByteArray) (vs cs : Value) (vars : List MVar) (cons : List MCon) : Prop where
  rd : Rd N R M en w q
  fr : Fr (XRM R M) w0 w
  nm : NmS w M names
  res : w.heap[w0.heap.size]? = some (.cells #[.slice none 0 0, .slice none 0 0, .int .i64 0, .int .i64 0] 25)
  mod : w.heap[w0.heap.size + 1]? = some (.cells #[vs, cs, .int .i64 0, .int .i64 0] 25)
  Rw : R < w0.heap.size
  Nw : N ≤ w0.heap.size
  Mw : M < w0.heap.size
  NM : N ≤ M
  vown : w.ownsRow w0.heap.size 47 3 vs vars.length (vars.flatMap varC)
  cown : LCr w0.heap.size w cs cons
section
variable {N R M : Nat} {en : Int} {names names' : List ByteArray} {w0 : World} {w w' : World} {q q' : List Tok} {vs cs v' : Value} {vars : List MVar} {cons : List MCon}
theorem ModSt.xlt (h : ModSt N R M en w0 w q names vs cs vars cons) : ∀ k, XRM R M k → k < w0.heap.size := fun k hk => by
  have h1 := h.Rw
  have h2 := h.Mw
  rcases hk with rfl | rfl <;> omega
theorem ModSt.call (h : ModSt N R M en w0 w q names vs cs vars cons) (hf : Fr (XRM R M) w w') (hrd : Rd N R M en w' q') (hnm : NmS w' M names') : ModSt N R M en w0 w' q' names' vs cs vars cons where
  rd := hrd
  fr := h.fr.trans hf
  nm := hnm
  res := (hf.block _ (Array.getElem?_eq_some_iff.1 h.res).1 (fun hx => by have := h.xlt _ hx; omega)).trans h.res
  mod := (hf.block _ (Array.getElem?_eq_some_iff.1 h.mod).1 (fun hx => by have := h.xlt _ hx; omega)).trans h.mod
  Rw := h.Rw
  Nw := h.Nw
  Mw := h.Mw
  NM := h.NM
  vown := own_fr h.vown hf h.xlt
  cown := h.cown.fr hf h.xlt
theorem ModSt.callR (h : ModSt N R M en w0 w q names vs cs vars cons) (hf : Fr (fun k => k = R) w w') (hrd : Rd N R M en w' q') : ModSt N R M en w0 w' q' names vs cs vars cons :=
  h.call hf.toRM hrd (h.nm.old (hf.block M h.nm.lt hrd.1.2.2))
theorem ModSt.below (h : ModSt N R M en w0 w q names vs cs vars cons) (hb : Below w.heap.size w w') : ModSt N R M en w0 w' q names vs cs vars cons := h.callR (Fr.below hb) (h.rd.below hb)
theorem ModSt.base (h : ModSt N R M en w0 w q names vs cs vars cons) : w0.heap.size ≤ w.heap.size := h.fr.size
theorem flat_snoc {α : Type} (f : α → List Value) (l : List α) (x : α) : (l ++ [x]).flatMap f = l.flatMap f ++ f x := by simp
/-- A row of the model's has grown; its new value is stored. -/
theorem ModSt.grown (h : ModSt N R M en w0 w q names vs cs vars cons) {v : Value} {n s : Nat} {e : TypeId} {xs : List Value} {o : Obj} (hv : w.ownsRow w0.heap.size e s v n xs) (he : 25 ≠ e) (hg : (w.alloc o).grownBy w' v.ownBlock) (i : Nat) (vs2 cs2 : Value) (vars2 : List MVar) (cons2 : List MCon)
    (hcs : (#[vs, cs, .int .i64 0, .int .i64 0] : Array Value).setIfInBounds i v' = #[vs2, cs2, .int .i64 0, .int .i64 0])
    (ho1 : w'.ownsRow w0.heap.size 47 3 vs2 vars2.length (vars2.flatMap varC)) (ho2 : LCr w0.heap.size w' cs2 cons2) :
    w'.heap[w0.heap.size + 1]? = some (.cells #[vs, cs, .int .i64 0, .int .i64 0] 25) ∧ ModSt N R M en w0 (w'.setCell ⟨w0.heap.size + 1, i, none⟩ v') q names vs2 cs2 vars2 cons2 := by
  have hlt : ∀ g, v.ownBlock = some g → w0.heap.size ≤ g ∧ g < w.heap.size := hv.lt
  have hap : ∀ (C : Nat) (cs : Array Value), w.heap[C]? = some (.cells cs 25) → some C ≠ v.ownBlock := by
    intro C cs hC e1
    rcases hv.2 with ⟨rfl, _⟩ | ⟨g, cap, cur, rfl, _, hh, _⟩
    · cases e1
    · have : C = g := Option.some.inj e1
      subst this
      rw [hh] at hC
      injection hC with h2
      injection h2 with _ h3
      exact he h3.symm
  have hlo : ∀ k, k < w0.heap.size → some k ≠ v.ownBlock := fun k hk e1 => by have := (hlt k e1.symm).1; omega
  have hkeep : ∀ k, k < w.heap.size → some k ≠ v.ownBlock → w'.heap[k]? = w.heap[k]? := fun k hk hne => (hg.block k (by simp; omega) hne).trans ((below_alloc w o).block k hk)
  have hres := (hkeep _ (Array.getElem?_eq_some_iff.1 h.res).1 (hap _ _ h.res)).trans h.res
  have hmod := (hkeep _ (Array.getElem?_eq_some_iff.1 h.mod).1 (hap _ _ h.mod)).trans h.mod
  have hRw := h.Rw
  have hMw := h.Mw
  have hNw := h.Nw
  have hsz := h.base
  refine ⟨hmod, ?_⟩
  exact {
    rd := ((h.rd.below (below_alloc w o)).grown hg (fun k hk => by have := (hlt k hk).1; omega)).set (p := ⟨w0.heap.size + 1, i, none⟩) (by show w0.heap.size + 1 ≠ R; omega) (by show N ≤ w0.heap.size + 1; omega) _
    fr := ((h.fr.alloc o).grown hg (fun k hk => Or.inr (hlt k hk).1)).setNew (p := ⟨w0.heap.size + 1, i, none⟩) (by show w0.heap.size ≤ w0.heap.size + 1; omega) _
    nm := (h.nm.old (hkeep M h.nm.lt (hlo M h.Mw))).old (Below.heap_setCell _ _ _ _ (by show M ≠ w0.heap.size + 1; omega))
    res := (Below.heap_setCell _ _ _ _ (by show w0.heap.size ≠ w0.heap.size + 1; omega)).trans hres
    mod := by rw [heap_setCell_same w' (w0.heap.size + 1) i _ _ _ hmod, hcs]
    Rw := h.Rw
    Nw := h.Nw
    Mw := h.Mw
    NM := h.NM
    vown := own_set ho1 hmod (by decide) i v'
    cown := ho2.set hmod i v' }
theorem ModSt.pushVar (h : ModSt N R M en w0 w q names vs (.slice none 0 0) vars []) (x : MVar) {o : Obj} (hg : (w.alloc o).grownBy w' vs.ownBlock)
    (ho : w'.ownsRow w0.heap.size 47 3 v' (vars.length + 1) (vars.flatMap varC ++ varC x)) :
    w'.heap[w0.heap.size + 1]? = some (.cells #[vs, .slice none 0 0, .int .i64 0, .int .i64 0] 25) ∧ ModSt N R M en w0 (w'.setCell ⟨w0.heap.size + 1, 0, none⟩ v') q names v' (.slice none 0 0) (vars ++ [x]) [] :=
  h.grown h.vown (by decide) hg 0 v' (.slice none 0 0) (vars ++ [x]) [] rfl (by rw [flat_snoc, List.length_append]; exact ho) (LCr.none _ _)
theorem ModSt.pushCon (h : ModSt N R M en w0 w q names vs cs vars cons) {vv vc vr vl : Value} {c : MCon} (hc : ConR w0.heap.size w vv vc vr vl c) {cells : List Value} (hw : w.ownsRow w0.heap.size 54 6 cs cons.length cells)
    (hcells : ∀ (i : Nat) (c : MCon), cons[i]? = some c → ∃ vv vc vr vl, (∀ j, j < 6 → cells[i * 6 + j]? = (conC vv vc vr vl c)[j]?) ∧ ConR w0.heap.size w vv vc vr vl c) {o : Obj} (hg : (w.alloc o).grownBy w' cs.ownBlock)
    (ho : w'.ownsRow w0.heap.size 54 6 v' (cons.length + 1) (cells ++ conC vv vc vr vl c)) :
    w'.heap[w0.heap.size + 1]? = some (.cells #[vs, cs, .int .i64 0, .int .i64 0] 25) ∧ ModSt N R M en w0 (w'.setCell ⟨w0.heap.size + 1, 1, none⟩ v') q names vs v' vars (cons ++ [c]) :=
  h.grown hw (by decide) hg 1 vs v' vars (cons ++ [c]) rfl ((h.vown.alloc _).kept hg (apart9 h.vown hw (by decide))) (LCr.push hw hcells hc ho hg)
end
end Go.Proofs.YtggkbhafbhhhhabGreatDoor
