/-
  PART 3 of what the proof leans on (ModG, ModH, StoPlain, SifPlain, LitPlain, ClaPlain, TruB, StoA, StoB, StoC, StoD).
-/
import Derived.Test.YtggkbhafbhhhhadGreatPartB
import Derived.ProofKit
import Derived.OpenShut
import Derived.ShutString
import Derived.ChangeOld
import Derived.Below
import Derived.SizedLaws
import Derived.Deep.Slices
import Derived.Deep.Strs
import Derived.Lib.SmallJoins
import Derived.Laws.OwnMore
/-
  A model that came in, opened.
-/
namespace Go.Proofs.YtggkbhafbhhhhadGreat
open Go.ChangeShapes Go.WideShapes Go.ChangeAt Go.RowKit Go.Deep

section
variable {H : Type} {enc : TypeId × Value → H} {w : World} {base : Nat} {spare : Nat → Bool} {held : Bool}

/-- A slice, opened by what its elements are. -/
theorem open_elems {α : Type} [Inhabited α] {t e : TypeId} {size : Nat} (ht : Tryz.prog.underlying t = some (.slice e)) (hc : Tryz.prog.cellsOf e = size) (hsz : 0 < size) (cellsOf : α → List Value) (good : α → Prop)
    (hel : ∀ (n : Nat) (cs' : List Value) (x' : DataW H × List MemPlace), DataW.trod enc Tryz.prog w base spare held n e cs' = some x' → ∃ a : α, cs' = cellsOf a ∧ good a)
    {fuel : Nat} {cs : List Value} {x : DataW H × List MemPlace} (h : DataW.trod enc Tryz.prog w base spare held fuel t cs = some x) :
    ∃ (l : List α) (a : Option Addr) (c : Nat), cs = [.slice a l.length c] ∧ (l.length ≤ c ∧ c ≤ maxLen) ∧ ∀ (i : Nat) (y : α), l[i]? = some y → good y ∧ ∃ b off, a = some ⟨b, off, none⟩ ∧ b < w.heap.size ∧ ∀ (j : Nat) (u : Value), (cellsOf y)[j]? = some u → w.cell? ⟨b, off + (i * size + j), none⟩ = some u := by
  rcases open_slice ht h with ⟨hcs, _⟩ | ⟨a, len, cap, m, n, D, Pl, hcs, _, hl, hcm, hmm, _, hx⟩
  · exact ⟨[], none, 0, hcs, ⟨Nat.le_refl _, Nat.zero_le _⟩, fun i y h => by simp at h⟩
  · have hlm : len ≤ m := by rw [hmm]; split <;> omega
    have each : ∀ i, i < len → ∃ y : α, good y ∧ (cellsOf y).length = size ∧ ∀ j u, (cellsOf y)[j]? = some u → w.cell? (a.add (i * size + j)) = some u := by
      intro i hi
      obtain ⟨cs', hc', ht'⟩ := hx i (by omega)
      obtain ⟨y, rfl, hg⟩ := hel n cs' _ ht'
      obtain ⟨_, hlen, hcell⟩ := World.cells?_some hc'
      rw [hc] at hlen
      refine ⟨y, hg, hlen, fun j u hj => ?_⟩
      have hj3 : j < (cellsOf y).length := (List.getElem?_eq_some_iff.1 hj).1
      have := hcell j (by rw [hc, ← hlen]; exact hj3)
      rw [hc, add_add] at this
      rw [this]; exact hj
    obtain ⟨f, hf⟩ := choose_lt each
    refine ⟨(List.range len).map f, some a, cap, by simpa using hcs, ⟨by simpa using hl, hcm⟩, fun i y hy => ?_⟩
    have hi : i < len := by have := (List.getElem?_eq_some_iff.1 hy).1; simpa using this
    have hyf : y = f i := by simp [hi] at hy; exact hy.symm
    subst hyf
    obtain ⟨hg, hlen, hcell⟩ := hf i hi
    obtain ⟨_, hlen0, hcell0⟩ := hf 0 (by omega)
    obtain ⟨u0, hu0⟩ : ∃ u0, (cellsOf (f 0))[0]? = some u0 := ⟨(cellsOf (f 0))[0]'(by omega), by simp⟩
    have h00 := hcell0 0 u0 hu0
    have hspot : a.spot = none := by simpa [Addr.add] using World.cell?_spot h00
    have hblk : a.block < w.heap.size := by simpa [Addr.add] using World.block_lt_of_cell? w _ h00
    refine ⟨hg, a.block, a.off, ?_, hblk, fun j u hj => ?_⟩
    · obtain ⟨b, off, spot⟩ := a; simp only at hspot; subst hspot; rfl
    · have := hcell j u hj
      obtain ⟨b, off, spot⟩ := a; simp only at hspot; subst hspot
      rwa [add_plain] at this

theorem Tryz.cInt : Tryz.prog.cellsOf 3 = 1 := by kernel_rfl
theorem Tryz.cStr : Tryz.prog.cellsOf 9 = 1 := by kernel_rfl
theorem Tryz.cInts : Tryz.prog.cellsOf 39 = 1 := by kernel_rfl
theorem Tryz.cRows : Tryz.prog.cellsOf 26 = 1 := by kernel_rfl
theorem Tryz.cLits : Tryz.prog.cellsOf 56 = 1 := by kernel_rfl
theorem Tryz.cLit : Tryz.prog.cellsOf 63 = 3 := by kernel_rfl
theorem Tryz.cVar : Tryz.prog.cellsOf 72 = 3 := by kernel_rfl
theorem Tryz.cCon : Tryz.prog.cellsOf 74 = 6 := by kernel_rfl

theorem open_ilist {fuel : Nat} {cs : List Value} {x : DataW H × List MemPlace} (h : DataW.trod enc Tryz.prog w base spare held fuel 39 cs = some x) :
    ∃ v l, cs = [v] ∧ IArg w v l := by
  obtain ⟨l, a, c, hcs, hm, hr⟩ := open_elems (α := Int) Tryz.underlying39 Tryz.cInt (by decide) (fun z => [.int .i64 z]) (fun _ => True)
    (fun n cs' x' h' => by obtain ⟨z, hz, _, _⟩ := DataW.trod_int Tryz.underlying3 h'; exact ⟨z, hz, trivial⟩) h
  refine ⟨_, l, hcs, a, c, rfl, hm, fun i z hz => ?_⟩
  obtain ⟨_, b, off, ha, hb, hc⟩ := hr i z hz
  have := hc 0 _ rfl
  exact ⟨b, off, ha, hb, by simpa using this⟩

theorem open_rlist {fuel : Nat} {cs : List Value} {x : DataW H × List MemPlace} (h : DataW.trod enc Tryz.prog w base spare held fuel 26 cs = some x) :
    ∃ v l, cs = [v] ∧ RArg w v l := by
  obtain ⟨l, a, c, hcs, hm, hr⟩ := open_elems (α := Value × List Int) Tryz.underlying26 Tryz.cInts (by decide) (fun z => [z.1]) (fun z => IArg w z.1 z.2)
    (fun n cs' x' h' => by obtain ⟨v, r, hz, hi⟩ := open_ilist h'; exact ⟨(v, r), hz, hi⟩) h
  refine ⟨_, l.map (·.2), hcs, a, c, by simp, by simpa using hm, fun i r hr' => ?_⟩
  rw [List.getElem?_map] at hr'
  obtain ⟨⟨v, r2⟩, hz, rfl⟩ := Option.map_eq_some_iff.1 hr'
  obtain ⟨hg, b, off, ha, hb, hc⟩ := hr i _ hz
  have := hc 0 _ rfl
  exact ⟨b, off, v, ha, hb, by simpa using this, hg⟩

set_option maxRecDepth 100000 in
theorem one_lit {n : Nat} {cs : List Value} {x : DataW H × List MemPlace} (h : DataW.trod enc Tryz.prog w base spare held n 63 cs = some x) :
    ∃ t : MLit, cs = [.int .i64 t.var, .int .i64 t.op, .int .i64 t.n] := by
  obtain ⟨y0, y1, y2, m, _, hl, h0, h1, h2⟩ := trod_struct3 Tryz.underlying63 h
  rw [Tryz.cLit] at hl
  obtain ⟨k, hk, _, _⟩ := DataW.trod_int Tryz.underlying3 h0
  obtain ⟨p, hp, _, _⟩ := DataW.trod_int Tryz.underlying3 h1
  obtain ⟨s, hs, _, _⟩ := DataW.trod_int Tryz.underlying3 h2
  match cs, hl with
  | [c0, c1, c2], _ =>
    change List.take (Tryz.prog.cellsOf 3) [c0, c1, c2] = _ at hk
    change List.take (Tryz.prog.cellsOf 3) [c1, c2] = _ at hp
    change List.take (Tryz.prog.cellsOf 3) [c2] = _ at hs
    rw [Tryz.cInt] at hk hp hs
    simp at hk hp hs
    exact ⟨⟨k, p, s⟩, by rw [hk, hp, hs]⟩

theorem open_llist {fuel : Nat} {cs : List Value} {x : DataW H × List MemPlace} (h : DataW.trod enc Tryz.prog w base spare held fuel 56 cs = some x) :
    ∃ v l, cs = [v] ∧ LArg w v l := by
  have hinh : Inhabited MLit := ⟨⟨0, 0, 0⟩⟩
  obtain ⟨l, a, c, hcs, hm, hr⟩ := open_elems (α := MLit) Tryz.underlying56 Tryz.cLit (by decide) (fun t => [.int .i64 t.var, .int .i64 t.op, .int .i64 t.n]) (fun _ => True)
    (fun n cs' x' h' => by obtain ⟨t, ht⟩ := one_lit h'; exact ⟨t, ht, trivial⟩) h
  refine ⟨_, l, hcs, a, c, rfl, hm, fun i z hz => ?_⟩
  obtain ⟨_, b, off, ha, hb, hc⟩ := hr i z hz
  have e0 := hc 0 _ rfl
  have e1 := hc 1 _ rfl
  have e2 := hc 2 _ rfl
  rw [← Nat.add_assoc] at e0 e1 e2
  exact ⟨b, off, ha, hb, e0, e1, e2⟩

set_option maxRecDepth 100000 in
theorem one_var {n : Nat} {cs : List Value} {x : DataW H × List MemPlace} (h : DataW.trod enc Tryz.prog w base spare held n 72 cs = some x) :
    ∃ t : MVar, cs = [.string t.name, .int .i64 t.lo, .int .i64 t.hi] ∧ t.name.size ≤ maxLen := by
  obtain ⟨y0, y1, y2, m, _, hl, h0, h1, h2⟩ := trod_struct3 Tryz.underlying72 h
  rw [Tryz.cVar] at hl
  obtain ⟨k, hk, _, hsz⟩ := DataW.trod_string Tryz.underlying9 h0
  obtain ⟨p, hp, _, _⟩ := DataW.trod_int Tryz.underlying3 h1
  obtain ⟨s, hs, _, _⟩ := DataW.trod_int Tryz.underlying3 h2
  match cs, hl with
  | [c0, c1, c2], _ =>
    change List.take (Tryz.prog.cellsOf 9) [c0, c1, c2] = _ at hk
    change List.take (Tryz.prog.cellsOf 3) [c1, c2] = _ at hp
    change List.take (Tryz.prog.cellsOf 3) [c2] = _ at hs
    rw [Tryz.cStr] at hk
    rw [Tryz.cInt] at hp hs
    simp at hk hp hs
    exact ⟨⟨k, p, s⟩, by rw [hk, hp, hs], hsz⟩

theorem open_vlist {fuel : Nat} {cs : List Value} {x : DataW H × List MemPlace} (h : DataW.trod enc Tryz.prog w base spare held fuel 22 cs = some x) :
    ∃ v l, cs = [v] ∧ VArg w v l := by
  have hinh : Inhabited MVar := ⟨⟨ByteArray.empty, 0, 0⟩⟩
  obtain ⟨l, a, c, hcs, hm, hr⟩ := open_elems (α := MVar) Tryz.underlying22 Tryz.cVar (by decide) (fun t => [.string t.name, .int .i64 t.lo, .int .i64 t.hi]) (fun t => t.name.size ≤ maxLen)
    (fun n cs' x' h' => by obtain ⟨t, ht, hs⟩ := one_var h'; exact ⟨t, ht, hs⟩) h
  refine ⟨_, l, hcs, a, c, rfl, hm, fun i z hz => ?_⟩
  obtain ⟨hg, b, off, ha, hb, hc⟩ := hr i z hz
  have e0 := hc 0 _ rfl
  have e1 := hc 1 _ rfl
  have e2 := hc 2 _ rfl
  rw [← Nat.add_assoc] at e0 e1 e2
  exact ⟨hg, b, off, ha, hb, e0, e1, e2⟩

set_option maxRecDepth 100000 in
theorem one_con {n : Nat} {cs : List Value} {x : DataW H × List MemPlace} (h : DataW.trod enc Tryz.prog w base spare held n 74 cs = some x) :
    ∃ (t : MCon) (vv vc vr vl : Value), cs = [.int .i64 t.kind, vv, vc, .int .i64 t.n, vr, vl] ∧ KArg w vv vc vr vl t := by
  obtain ⟨xs, k, _, _, hl, hxl, hf⟩ := DataW.trod_struct Tryz.underlying74 h
  rw [Tryz.cCon] at hl
  match cs, hl, xs, hxl with
  | [c0, c1, c2, c3, c4, c5], _, [y0, y1, y2, y3, y4, y5], _ =>
    have g0 := hf 0 _ rfl
    have g1 := hf 1 _ rfl
    have g2 := hf 2 _ rfl
    have g3 := hf 3 _ rfl
    have g4 := hf 4 _ rfl
    have g5 := hf 5 _ rfl
    obtain ⟨kd, hk, _, _⟩ := DataW.trod_int Tryz.underlying3 g0
    obtain ⟨v1, l1, hv1, i1⟩ := open_ilist g1
    obtain ⟨v2, l2, hv2, i2⟩ := open_ilist g2
    obtain ⟨nn, hn, _, _⟩ := DataW.trod_int Tryz.underlying3 g3
    obtain ⟨v4, l4, hv4, i4⟩ := open_rlist g4
    obtain ⟨v5, l5, hv5, i5⟩ := open_llist g5
    change List.take (Tryz.prog.cellsOf 3) [c0, c1, c2, c3, c4, c5] = _ at hk
    change List.take (Tryz.prog.cellsOf 39) [c1, c2, c3, c4, c5] = _ at hv1
    change List.take (Tryz.prog.cellsOf 39) [c2, c3, c4, c5] = _ at hv2
    change List.take (Tryz.prog.cellsOf 3) [c3, c4, c5] = _ at hn
    change List.take (Tryz.prog.cellsOf 26) [c4, c5] = _ at hv4
    change List.take (Tryz.prog.cellsOf 56) [c5] = _ at hv5
    rw [Tryz.cInt] at hk hn
    rw [Tryz.cInts] at hv1 hv2
    rw [Tryz.cRows] at hv4
    rw [Tryz.cLits] at hv5
    simp at hk hv1 hv2 hn hv4 hv5
    exact ⟨⟨kd, l1, l2, nn, l4, l5⟩, v1, v2, v4, v5, by rw [hk, hv1, hv2, hn, hv4, hv5], i1, i2, i4, i5⟩

theorem open_clist {fuel : Nat} {cs : List Value} {x : DataW H × List MemPlace} (h : DataW.trod enc Tryz.prog w base spare held fuel 23 cs = some x) :
    ∃ v l, cs = [v] ∧ CArg w v l := by
  have hinh : Inhabited (MCon × Value × Value × Value × Value) := ⟨⟨0, [], [], 0, [], []⟩, .bool false, .bool false, .bool false, .bool false⟩
  obtain ⟨l, a, c, hcs, hm, hr⟩ := open_elems (α := MCon × Value × Value × Value × Value) Tryz.underlying23 Tryz.cCon (by decide)
    (fun t => [.int .i64 t.1.kind, t.2.1, t.2.2.1, .int .i64 t.1.n, t.2.2.2.1, t.2.2.2.2]) (fun t => KArg w t.2.1 t.2.2.1 t.2.2.2.1 t.2.2.2.2 t.1)
    (fun n cs' x' h' => by obtain ⟨t, vv, vc, vr, vl, ht, hk⟩ := one_con h'; exact ⟨(t, vv, vc, vr, vl), ht, hk⟩) h
  refine ⟨_, l.map (·.1), hcs, a, c, by simp, by simpa using hm, fun i r hr' => ?_⟩
  rw [List.getElem?_map] at hr'
  obtain ⟨⟨t, vv, vc, vr, vl⟩, hz, rfl⟩ := Option.map_eq_some_iff.1 hr'
  obtain ⟨hg, b, off, ha, hb, hc⟩ := hr i _ hz
  have e0 := hc 0 _ rfl
  have e1 := hc 1 _ rfl
  have e2 := hc 2 _ rfl
  have e3 := hc 3 _ rfl
  have e4 := hc 4 _ rfl
  have e5 := hc 5 _ rfl
  rw [← Nat.add_assoc] at e0 e1 e2 e3 e4 e5
  exact ⟨b, off, vv, vc, vr, vl, ha, hb, e0, e1, e2, e3, e4, e5, hg⟩

theorem Tryz.cModel : Tryz.prog.cellsOf 25 = 4 := by kernel_rfl
set_option maxRecDepth 100000 in
/-- A model by value. -/
theorem open_model {r : Reach} {b0 : Nat} {v : Value} {d : DataW H} {p : List MemPlace} (hv : Value.okWide Tryz.prog w r b0 25 v) (h : DataW.Trod enc Tryz.prog w base spare held 25 v d p) :
    ∃ vs cs m, v = modV vs cs m ∧ MArg w vs cs m := by
  obtain ⟨v0, v1, v2, v3, y0, y1, y2, y3, n, rfl, _, _, h0, h1, h2, h3⟩ := Go.Joins.open_agg4 Tryz.underlying25 (by kernel_rfl) Tryz.cModel hv h
  obtain ⟨a0, l0, e0, i0⟩ := open_vlist h0
  obtain ⟨a1, l1, e1, i1⟩ := open_clist h1
  obtain ⟨g, hg, _, _⟩ := DataW.trod_int Tryz.underlying3 h2
  obtain ⟨q, hq, _, _⟩ := DataW.trod_int Tryz.underlying3 h3
  cases e0; cases e1; cases hg; cases hq
  exact ⟨v0, v1, ⟨l0, l1, g, q⟩, rfl, i0, i1⟩
end
end Go.Proofs.YtggkbhafbhhhhadGreat
/-
  WALK: two(): the small model that all statements begin with.
-/
namespace Go.Proofs.YtggkbhafbhhhhadGreat
open Go.RowKit

def twoM : Mod := ⟨[⟨⟨#[120]⟩, 0, 2⟩, ⟨⟨#[121]⟩, 0, 2⟩], [⟨1, [0, 1], [1, -1], -1, [], []⟩], 1, 1⟩
theorem two_checks : checkM twoM = 0 := by kernel_rfl

theorem five_blocks (w : World) (o1 o2 o3 o4 o5 : Obj) :
    (((((w.alloc o1).alloc o2).alloc o3).alloc o4).alloc o5).heap[w.heap.size + 1]? = some o2 ∧ (((((w.alloc o1).alloc o2).alloc o3).alloc o4).alloc o5).heap[w.heap.size + 1 + 1]? = some o3 ∧
    (((((w.alloc o1).alloc o2).alloc o3).alloc o4).alloc o5).heap[w.heap.size + 1 + 1 + 1]? = some o4 ∧ (((((w.alloc o1).alloc o2).alloc o3).alloc o4).alloc o5).heap[w.heap.size + 1 + 1 + 1 + 1]? = some o5 := by
  refine ⟨?_, ?_, ?_, ?_⟩
  all_goals
    show (((((w.heap.push _).push _).push _).push _).push _)[_]? = _
    simp only [Array.getElem?_push, Array.size_push]
    repeat first | rw [if_pos (by omega)] | rw [if_neg (by omega)]
  all_goals rfl

set_option maxHeartbeats 400000 in
set_option maxRecDepth 100000 in
theorem two_any (w : World) :
    Calls Tryz.prog 35 #[] w fun e w' => ∃ vs cs, e = .returned (modV vs cs twoM) ∧ MArg w' vs cs twoM ∧ Below w.heap.size w w' := by
  go_enter Tryz.func35, Tryz.ntmps35
  go_wp2
  refine bodyPost_ret (v := modV (.slice (some ⟨w.heap.size + 1, 0, none⟩) 2 2) (.slice (some ⟨w.heap.size + 1 + 1 + 1 + 1, 0, none⟩) 1 1) twoM) (by simp [results, Tryz.results35, go_sem, modV, twoM]) rfl ⟨_, _, rfl, ⟨?_, ?_⟩, ?_⟩
  · refine ⟨_, _, rfl, ⟨by decide, by unfold maxLen; decide⟩, fun i t ht => ?_⟩
    have hb := (five_blocks w (.cells #[.slice (some ⟨w.heap.size + 1, 0, none⟩) 2 2, .slice (some ⟨w.heap.size + 1 + 1 + 1 + 1, 0, none⟩) 1 1, .int .i64 1, .int .i64 1] 25) (.cells #[.string ⟨#[120]⟩, .int .i64 0, .int .i64 2, .string ⟨#[121]⟩, .int .i64 0, .int .i64 2] 72) (.cells #[.int .i64 0, .int .i64 1] 3) (.cells #[.int .i64 1, .int .i64 (-1)] 3) (.cells #[.int .i64 1, .slice (some ⟨w.heap.size + 1 + 1, 0, none⟩) 2 2, .slice (some ⟨w.heap.size + 1 + 1 + 1, 0, none⟩) 2 2, .int .i64 (-1), .slice none 0 0, .slice none 0 0] 74)).1
    match i, ht with
    | 0, ht => cases ht; exact ⟨by unfold maxLen; decide, _, _, rfl, by simp, by rw [Lib.cell_of_heap hb]; rfl, by rw [Lib.cell_of_heap hb]; rfl, by rw [Lib.cell_of_heap hb]; rfl⟩
    | 1, ht => cases ht; exact ⟨by unfold maxLen; decide, _, _, rfl, by simp, by rw [Lib.cell_of_heap hb]; rfl, by rw [Lib.cell_of_heap hb]; rfl, by rw [Lib.cell_of_heap hb]; rfl⟩
  · refine ⟨_, _, rfl, ⟨by decide, by unfold maxLen; decide⟩, fun i t ht => ?_⟩
    obtain ⟨_, hb2, hb3, hb4⟩ := five_blocks w (.cells #[.slice (some ⟨w.heap.size + 1, 0, none⟩) 2 2, .slice (some ⟨w.heap.size + 1 + 1 + 1 + 1, 0, none⟩) 1 1, .int .i64 1, .int .i64 1] 25) (.cells #[.string ⟨#[120]⟩, .int .i64 0, .int .i64 2, .string ⟨#[121]⟩, .int .i64 0, .int .i64 2] 72) (.cells #[.int .i64 0, .int .i64 1] 3) (.cells #[.int .i64 1, .int .i64 (-1)] 3) (.cells #[.int .i64 1, .slice (some ⟨w.heap.size + 1 + 1, 0, none⟩) 2 2, .slice (some ⟨w.heap.size + 1 + 1 + 1, 0, none⟩) 2 2, .int .i64 (-1), .slice none 0 0, .slice none 0 0] 74)
    match i, ht with
    | 0, ht =>
      cases ht
      refine ⟨_, _, .slice (some ⟨w.heap.size + 1 + 1, 0, none⟩) 2 2, .slice (some ⟨w.heap.size + 1 + 1 + 1, 0, none⟩) 2 2, .slice none 0 0, .slice none 0 0, rfl, by simp, by rw [Lib.cell_of_heap hb4]; rfl, by rw [Lib.cell_of_heap hb4]; rfl, by rw [Lib.cell_of_heap hb4]; rfl, by rw [Lib.cell_of_heap hb4]; rfl, by rw [Lib.cell_of_heap hb4]; rfl, by rw [Lib.cell_of_heap hb4]; rfl, ?_⟩
      refine ⟨⟨_, _, rfl, ⟨by decide, by unfold maxLen; decide⟩, fun i z hz => ?_⟩, ⟨_, _, rfl, ⟨by decide, by unfold maxLen; decide⟩, fun i z hz => ?_⟩, ⟨_, _, rfl, ⟨by decide, by unfold maxLen; decide⟩, fun i z hz => by simp at hz⟩, ⟨_, _, rfl, ⟨by decide, by unfold maxLen; decide⟩, fun i z hz => by simp at hz⟩⟩
      · match i, hz with
        | 0, hz => cases hz; exact ⟨_, _, rfl, by simp, by rw [Lib.cell_of_heap hb2]; rfl⟩
        | 1, hz => cases hz; exact ⟨_, _, rfl, by simp, by rw [Lib.cell_of_heap hb2]; rfl⟩
      · match i, hz with
        | 0, hz => cases hz; exact ⟨_, _, rfl, by simp, by rw [Lib.cell_of_heap hb3]; rfl⟩
        | 1, hz => cases hz; exact ⟨_, _, rfl, by simp, by rw [Lib.cell_of_heap hb3]; rfl⟩
  · exact (((((Below.refl _ _).alloc (Nat.le_refl _) _).alloc (by simp) _).alloc (by simp; omega) _).alloc (by simp; omega) _).alloc (by simp; omega) _
end Go.Proofs.YtggkbhafbhhhhadGreat
/-
  PLAIN: stores, and what the program's calls say of them, as functions on data; no program in it.
-/
namespace Go.Proofs.YtggkbhafbhhhhadGreat

abbrev Sto := List (List Int)
def insideB (v : MVar) (n : Int) : Bool := decide (v.lo ≤ n) && decide (n ≤ v.hi)
def risesB : List Int → Bool
  | a :: b :: r => decide (a < b) && risesB (b :: r)
  | _ => true
def rangeS (vs : List MVar) (s : Sto) : Bool := (vs.zip s).all fun p => p.2.all (insideB p.1)
def checkV (vs : List MVar) (s : Sto) : Int :=
  if s.length = vs.length then (if rangeS vs s then (if s.all risesB then 0 else 4) else 3) else 1
/-- What is wrong with a model, then with the stores, one after the other. -/
def checkL (m : Mod) (l : List Sto) : Int := if checkM m = 0 then firstE (l.map (checkV m.vars)) else checkM m
def hasB (l : List Int) (n : Int) : Bool := l.any (fun k => n == k)
def meetR (a b : List Int) : List Int := a.filter (hasB b)
def meetS (s t : Sto) : Sto := List.zipWith meetR s t
def withinR (a b : List Int) : Bool := a.all (hasB b)
def withinS (s t : Sto) : Bool := (s.zip t).all fun p => withinR p.1 p.2
def failedS (s : Sto) : Bool := s.any fun r => decide (r.length = 0)
def spanR (lo hi : Int) : List Int := (List.range (hi + 1 - lo).toNat).map fun (k : Nat) => lo + (k : Int)
def beginS (vs : List MVar) : Sto := vs.map fun v => spanR v.lo v.hi

theorem hasB_iff (l : List Int) (n : Int) : hasB l n = true ↔ n ∈ l := by
  unfold hasB; rw [List.any_eq_true]
  constructor
  · rintro ⟨k, hk, he⟩; rwa [beq_iff_eq.1 he]
  · intro h; exact ⟨n, h, by simp⟩
theorem withinR_iff (a b : List Int) : withinR a b = true ↔ ∀ n ∈ a, n ∈ b := by
  unfold withinR; rw [List.all_eq_true]
  exact ⟨fun h n hn => (hasB_iff b n).1 (h n hn), fun h n hn => (hasB_iff b n).2 (h n hn)⟩
theorem mem_meetR (a b : List Int) (n : Int) : n ∈ meetR a b ↔ n ∈ a ∧ n ∈ b := by
  unfold meetR; rw [List.mem_filter, hasB_iff]
theorem rises_pair (l : List Int) : risesB l = true ↔ l.Pairwise (· < ·) := by
  induction l with
  | nil => simp [risesB]
  | cons a r ih =>
    cases r with
    | nil => simp [risesB]
    | cons b r =>
      simp only [risesB, Bool.and_eq_true, decide_eq_true_eq]
      rw [ih]
      constructor
      · rintro ⟨hab, hp⟩
        refine List.pairwise_cons.2 ⟨fun c hc => ?_, hp⟩
        rcases List.mem_cons.1 hc with rfl | hc
        · exact hab
        · have := (List.pairwise_cons.1 hp).1 c hc; omega
      · intro hp
        exact ⟨(List.pairwise_cons.1 hp).1 b (List.mem_cons_self ..), (List.pairwise_cons.1 hp).2⟩
theorem meetS_len (s t : Sto) (h : t.length = s.length) : (meetS s t).length = s.length := by simp [meetS, h]
theorem meetS_get (s t : Sto) (i : Nat) (a b : List Int) (ha : s[i]? = some a) (hb : t[i]? = some b) : (meetS s t)[i]? = some (meetR a b) := by
  simp [meetS, List.getElem?_zipWith, ha, hb]

theorem all_zip {α β : Type} (p : α × β → Bool) : ∀ (a : List α) (b : List β), (a.zip b).all p = true ↔ ∀ (i : Nat) x y, a[i]? = some x → b[i]? = some y → p (x, y) = true
  | [], b => by simp
  | x :: a, [] => by simp
  | x :: a, y :: b => by
    rw [List.zip_cons_cons, List.all_cons, Bool.and_eq_true, all_zip p a b]
    constructor
    · rintro ⟨h0, h1⟩ i u v hu hv
      cases i with
      | zero => simp at hu hv; subst hu; subst hv; exact h0
      | succ i => exact h1 i u v (by simpa using hu) (by simpa using hv)
    · intro h
      exact ⟨h 0 x y rfl rfl, fun i u v hu hv => h (i + 1) u v (by simpa using hu) (by simpa using hv)⟩

theorem checkV_ok (vs : List MVar) (s : Sto) : checkV vs s = 0 ↔ s.length = vs.length ∧ rangeS vs s = true ∧ s.all risesB = true := by
  unfold checkV
  by_cases h1 : s.length = vs.length
  · cases h2 : rangeS vs s <;> cases h3 : s.all risesB <;> simp [h1]
  · simp [h1]
theorem checkV_meet (vs : List MVar) (s t : Sto) (hs : checkV vs s = 0) (ht : checkV vs t = 0) : checkV vs (meetS s t) = 0 := by
  rw [checkV_ok] at *
  obtain ⟨s1, s2, s3⟩ := hs
  obtain ⟨t1, t2, t3⟩ := ht
  have hl : t.length = s.length := by omega
  refine ⟨by rw [meetS_len s t hl, s1], ?_, ?_⟩
  · unfold rangeS at *
    rw [all_zip] at *
    intro i v r hv hr
    have hi : i < s.length := by rw [← meetS_len s t hl]; exact (List.getElem?_eq_some_iff.1 hr).1
    have ha : s[i]? = some s[i] := by simp [hi]
    have hb : t[i]? = some (t[i]'(by omega)) := by simp [show i < t.length by omega]
    rw [meetS_get s t i _ _ ha hb] at hr
    cases hr
    have h0 := s2 i v _ hv ha
    rw [List.all_eq_true] at h0 ⊢
    intro n hn
    exact h0 n ((mem_meetR _ _ _).1 hn).1
  · rw [List.all_eq_true] at *
    intro r hr
    obtain ⟨i, hi⟩ := List.mem_iff_getElem?.1 hr
    have hi' : i < s.length := by rw [← meetS_len s t hl]; exact (List.getElem?_eq_some_iff.1 hi).1
    have ha : s[i]? = some s[i] := by simp [hi']
    have hb : t[i]? = some (t[i]'(by omega)) := by simp [show i < t.length by omega]
    rw [meetS_get s t i _ _ ha hb] at hi
    cases hi
    rw [rises_pair]
    exact ((rises_pair _).1 (s3 _ (List.mem_of_getElem? ha))).sublist (List.filter_sublist)
theorem within_meet_l (s t : Sto) (hl : t.length = s.length) : withinS (meetS s t) s = true := by
  unfold withinS
  rw [all_zip]
  intro i r a hr ha
  have hi : i < s.length := (List.getElem?_eq_some_iff.1 ha).1
  have hb : t[i]? = some (t[i]'(by omega)) := by simp [show i < t.length by omega]
  rw [meetS_get s t i _ _ ha hb] at hr
  cases hr
  exact (withinR_iff _ _).2 fun n hn => ((mem_meetR _ _ _).1 hn).1
theorem within_meet_r (s t : Sto) (hl : t.length = s.length) : withinS (meetS s t) t = true := by
  unfold withinS
  rw [all_zip]
  intro i r b hr hb
  have hi : i < t.length := (List.getElem?_eq_some_iff.1 hb).1
  have ha : s[i]? = some (s[i]'(by omega)) := by simp [show i < s.length by omega]
  rw [meetS_get s t i _ _ ha hb] at hr
  cases hr
  exact (withinR_iff _ _).2 fun n hn => ((mem_meetR _ _ _).1 hn).2
theorem within_meet (s t u : Sto) (hl : t.length = s.length) (hu : u.length = s.length) : withinS u (meetS s t) = (withinS u s && withinS u t) := by
  rw [Bool.eq_iff_iff, Bool.and_eq_true]
  unfold withinS
  rw [all_zip, all_zip, all_zip]
  constructor
  · intro h
    refine ⟨fun i r a hr ha => ?_, fun i r b hr hb => ?_⟩
    · have hi : i < s.length := (List.getElem?_eq_some_iff.1 ha).1
      have hb : t[i]? = some (t[i]'(by omega)) := by simp [show i < t.length by omega]
      have := h i r _ hr (meetS_get s t i _ _ ha hb)
      exact (withinR_iff _ _).2 fun n hn => ((mem_meetR _ _ _).1 ((withinR_iff _ _).1 this n hn)).1
    · have hi : i < t.length := (List.getElem?_eq_some_iff.1 hb).1
      have ha : s[i]? = some (s[i]'(by omega)) := by simp [show i < s.length by omega]
      have := h i r _ hr (meetS_get s t i _ _ ha hb)
      exact (withinR_iff _ _).2 fun n hn => ((mem_meetR _ _ _).1 ((withinR_iff _ _).1 this n hn)).2
  · rintro ⟨h1, h2⟩ i r x hr hx
    have hi : i < s.length := by rw [← meetS_len s t hl]; exact (List.getElem?_eq_some_iff.1 hx).1
    have ha : s[i]? = some (s[i]'(by omega)) := by simp [hi]
    have hb : t[i]? = some (t[i]'(by omega)) := by simp [show i < t.length by omega]
    rw [meetS_get s t i _ _ ha hb] at hx
    cases hx
    refine (withinR_iff _ _).2 fun n hn => (mem_meetR _ _ _).2 ⟨?_, ?_⟩
    · exact (withinR_iff _ _).1 (h1 i r _ hr ha) n hn
    · exact (withinR_iff _ _).1 (h2 i r _ hr hb) n hn
end Go.Proofs.YtggkbhafbhhhhadGreat
/-
  PLAIN: the store of those values that stay.
-/
namespace Go.Proofs.YtggkbhafbhhhhadGreat

def siftS (s : Sto) (p : Nat → Int → Bool) : Sto := s.mapIdx fun k r => r.filter (p k)
theorem siftS_len (s : Sto) (p : Nat → Int → Bool) : (siftS s p).length = s.length := by simp [siftS]
theorem siftS_get (s : Sto) (p : Nat → Int → Bool) (k : Nat) (r : List Int) (h : s[k]? = some r) : (siftS s p)[k]? = some (r.filter (p k)) := by
  simp [siftS, h]
theorem siftS_back (s : Sto) (p : Nat → Int → Bool) (k : Nat) (q : List Int) (h : (siftS s p)[k]? = some q) : ∃ r, s[k]? = some r ∧ q = r.filter (p k) := by
  have hk : k < s.length := by rw [← siftS_len s p]; exact (List.getElem?_eq_some_iff.1 h).1
  refine ⟨s[k], by simp [hk], ?_⟩
  rw [siftS_get s p k s[k] (by simp [hk])] at h
  exact (Option.some.inj h).symm
theorem sto_ext (s t : Sto) (hl : s.length = t.length) (h : ∀ (k : Nat) r q, s[k]? = some r → t[k]? = some q → r = q) : s = t := by
  apply List.ext_getElem? 
  intro k
  by_cases hk : k < s.length
  · have h1 : s[k]? = some s[k] := by simp [hk]
    have h2 : t[k]? = some (t[k]'(by omega)) := by simp [show k < t.length by omega]
    rw [h1, h2, h k _ _ h1 h2]
  · rw [List.getElem?_eq_none (by omega), List.getElem?_eq_none (by omega)]
theorem checkV_sift (vs : List MVar) (s : Sto) (p : Nat → Int → Bool) (hs : checkV vs s = 0) : checkV vs (siftS s p) = 0 := by
  rw [checkV_ok] at *
  obtain ⟨s1, s2, s3⟩ := hs
  refine ⟨by rw [siftS_len, s1], ?_, ?_⟩
  · unfold rangeS at *
    rw [all_zip] at *
    intro i v r hv hr
    obtain ⟨q, hq, rfl⟩ := siftS_back s p i r hr
    have h0 := s2 i v q hv hq
    rw [List.all_eq_true] at h0 ⊢
    intro n hn
    exact h0 n (List.mem_filter.1 hn).1
  · rw [List.all_eq_true] at *
    intro r hr
    obtain ⟨i, hi⟩ := List.mem_iff_getElem?.1 hr
    obtain ⟨q, hq, rfl⟩ := siftS_back s p i r hi
    rw [rises_pair]
    exact ((rises_pair _).1 (s3 _ (List.mem_of_getElem? hq))).sublist List.filter_sublist
theorem within_sift (s : Sto) (p : Nat → Int → Bool) : withinS (siftS s p) s = true := by
  unfold withinS
  rw [all_zip]
  intro i r a hr ha
  obtain ⟨q, hq, rfl⟩ := siftS_back s p i r hr
  rw [ha] at hq; cases hq
  exact (withinR_iff _ _).2 fun n hn => (List.mem_filter.1 hn).1
theorem meetS_sift (s t : Sto) (h : t.length = s.length) : meetS s t = siftS s fun k z => hasB (t.getD k []) z := by
  refine sto_ext _ _ (by rw [meetS_len s t h, siftS_len]) fun k r q hr hq => ?_
  obtain ⟨a, ha, rfl⟩ := siftS_back _ _ _ _ hq
  have hk : k < s.length := (List.getElem?_eq_some_iff.1 ha).1
  have hb : t[k]? = some (t[k]'(by omega)) := by simp [show k < t.length by omega]
  rw [meetS_get s t k _ _ ha hb] at hr
  cases hr
  unfold meetR
  rw [List.getD_eq_getElem?_getD, hb]; rfl
def hasS (s : Sto) (vals : List Int) : Bool := decide (s.length = vals.length) && (s.zip vals).all fun p => hasB p.1 p.2
theorem hasS_iff (s : Sto) (vals : List Int) : hasS s vals = true ↔ s.length = vals.length ∧ ∀ (k : Nat) r x, s[k]? = some r → vals[k]? = some x → x ∈ r := by
  unfold hasS
  rw [Bool.and_eq_true, decide_eq_true_eq, all_zip]
  exact ⟨fun h => ⟨h.1, fun k r x hr hx => (hasB_iff _ _).1 (h.2 k r x hr hx)⟩, fun h => ⟨h.1, fun k r x hr hx => (hasB_iff _ _).2 (h.2 k r x hr hx)⟩⟩
end Go.Proofs.YtggkbhafbhhhhadGreat
/-
  PLAIN: literals, and what the program's calls say of them; that a literal and its opposite part the values.
-/
namespace Go.Proofs.YtggkbhafbhhhhadGreat

def litE (vs : List MVar) (l : MLit) : Int :=
  if l.var < 0 ∨ (vs.length : Int) ≤ l.var then 5 else if l.op < 1 ∨ 4 < l.op then 7 else if l.n < -1000 ∨ 1000 < l.n then 3 else 0
def lcheckA (m : Mod) (l : MLit) : Int := if checkM m = 0 then litE m.vars l else checkM m
def lholdsA (m : Mod) (l : MLit) (x : Int) : Bool × Int := if lcheckA m l = 0 then (litV x l, 0) else (false, lcheckA m l)
def oppL (l : MLit) : MLit := if l.op = 1 then ⟨l.var, 2, l.n + 1⟩ else if l.op = 2 then ⟨l.var, 1, l.n - 1⟩ else if l.op = 3 then ⟨l.var, 4, l.n⟩ else ⟨l.var, 3, l.n⟩
def noLit : MLit := ⟨0, 0, 0⟩
def lnotA (m : Mod) (l : MLit) : MLit × Int :=
  if lcheckA m l = 0 then (if litE m.vars (oppL l) = 0 then (oppL l, 0) else (noLit, litE m.vars (oppL l))) else (noLit, lcheckA m l)
def linE (m : Mod) (s : Sto) (l : MLit) : Int := if checkL m [s] = 0 then litE m.vars l else checkL m [s]
def heldN (r : List Int) (l : MLit) : Nat := (r.filter fun x => litV x l).length
def toldR (r : List Int) (l : MLit) : Int := if heldN r l = 0 then -1 else if heldN r l = r.length then 1 else 0
def rowOf (s : Sto) (l : MLit) : List Int := s.getD l.var.toNat []
def ltoldA (m : Mod) (s : Sto) (l : MLit) : Int × Int := if linE m s l = 0 then (toldR (rowOf s l) l, 0) else (0, linE m s l)
def putB (l : MLit) (k : Nat) (z : Int) : Bool := decide ((k : Int) ≠ l.var) || litV z l
def putS (s : Sto) (l : MLit) : Sto := siftS s (putB l)
def lputA (m : Mod) (s : Sto) (l : MLit) : Sto × Int := if linE m s l = 0 then (putS s l, 0) else ([], linE m s l)

theorem litE_ok (vs : List MVar) (l : MLit) : litE vs l = 0 ↔ (0 ≤ l.var ∧ l.var < vs.length) ∧ (1 ≤ l.op ∧ l.op ≤ 4) ∧ (-1000 ≤ l.n ∧ l.n ≤ 1000) := by
  unfold litE
  split
  · constructor
    · intro h; cases h
    · intro h; omega
  · split
    · constructor
      · intro h; cases h
      · intro h; omega
    · split
      · constructor
        · intro h; cases h
        · intro h; omega
      · constructor
        · intro _; omega
        · intro _; rfl
theorem oppL_var (l : MLit) : (oppL l).var = l.var := by
  unfold oppL
  split
  · rfl
  · split
    · rfl
    · split <;> rfl
theorem oppL_op (l : MLit) : 1 ≤ (oppL l).op ∧ (oppL l).op ≤ 4 := by
  unfold oppL
  split
  · simp
  · split
    · simp
    · split <;> simp
theorem litV_opp (x : Int) (l : MLit) (h : 1 ≤ l.op ∧ l.op ≤ 4) : litV x (oppL l) = !litV x l := by
  rcases (show l.op = 1 ∨ l.op = 2 ∨ l.op = 3 ∨ l.op = 4 by omega) with h | h | h | h
  · simp only [oppL, litV, h]
    simp
    by_cases q : x ≤ l.n
    · rw [decide_eq_true q, decide_eq_false (by omega)]; rfl
    · rw [decide_eq_false q, decide_eq_true (by omega)]; rfl
  · simp only [oppL, litV, h]
    simp
    by_cases q : l.n ≤ x
    · rw [decide_eq_true q, decide_eq_false (by omega)]; rfl
    · rw [decide_eq_false q, decide_eq_true (by omega)]; rfl
  · simp only [oppL, litV, h]
    simp [bne]
  · simp only [oppL, litV, h]
    simp [bne]
theorem linE_ok (m : Mod) (s : Sto) (l : MLit) (h : linE m s l = 0) : checkL m [s] = 0 ∧ litE m.vars l = 0 := by
  unfold linE at h
  split at h
  · rename_i h0; exact ⟨h0, h⟩
  · contradiction
theorem checkL_one (m : Mod) (s : Sto) : checkL m [s] = 0 ↔ checkM m = 0 ∧ checkV m.vars s = 0 := by
  unfold checkL
  by_cases h : checkM m = 0
  · rw [if_pos h]
    simp only [List.map, firstE]
    by_cases h1 : checkV m.vars s = 0
    · simp [h, h1]
    · simp [h1]
  · rw [if_neg h]; simp [h]
theorem put_row (s : Sto) (l : MLit) (i : Nat) (hi : l.var = (i : Int)) (r : List Int) (hr : s[i]? = some r) : (putS s l)[i]? = some (r.filter fun z => litV z l) := by
  unfold putS
  rw [siftS_get s _ i r hr]
  congr 1
  refine List.filter_congr fun z _ => ?_
  unfold putB
  rw [hi]; simp
theorem held_parts (r : List Int) (l : MLit) (h : 1 ≤ l.op ∧ l.op ≤ 4) : heldN r l + heldN r (oppL l) = r.length := by
  unfold heldN
  induction r with
  | nil => rfl
  | cons a r ih =>
    rw [List.filter_cons, List.filter_cons, litV_opp a l h]
    cases litV a l <;> simp <;> omega
theorem lcheck_ok (m : Mod) (l : MLit) (h : lcheckA m l = 0) : checkM m = 0 ∧ litE m.vars l = 0 := by
  unfold lcheckA at h
  split at h
  · rename_i h0; exact ⟨h0, h⟩
  · contradiction
end Go.Proofs.YtggkbhafbhhhhadGreat
/-
  PLAIN: clauses, and what they leave of a store; that no values are lost.
-/
namespace Go.Proofs.YtggkbhafbhhhhadGreat

abbrev Cla := List MLit
/-- Does a clause hold of values? -/
def claB (c : Cla) (vals : List Int) : Bool := c.any fun l => litV (vals.getD l.var.toNat 0) l
def claE (vs : List MVar) (c : Cla) : Int := if 40 < c.length then 2 else firstE (c.map (litE vs))
/-- Does one of the literals of a variable hold of a value? -/
def oneB (c : Cla) (k : Nat) (z : Int) : Bool := c.any fun l => decide (l.var = (k : Int)) && litV z l
/-- The literals that are not told to hold of nothing. -/
def liveL (s : Sto) (c : Cla) : Cla := c.filter fun l => decide (heldN (rowOf s l) l ≠ 0)
def clasE (vs : List MVar) (l : List Cla) : Int := if 600 < l.length then 2 else firstE (l.map (claE vs))
def liveB (s : Sto) (l : MLit) : Bool := (rowOf s l).any fun z => litV z l
def unitS (s : Sto) (c : Cla) : Sto :=
  if failedS s then s
  else match liveL s c with
    | [] => siftS s fun _ _ => false
    | l0 :: rest => if rest.all (fun l => decide (l.var = l0.var)) then siftS s (fun k z => decide ((k : Int) ≠ l0.var) || oneB c k z) else s
def denyS (s : Sto) (c : Cla) : Sto := siftS s fun k z => !oneB c k z

theorem held_pos (r : List Int) (l : MLit) : heldN r l ≠ 0 ↔ ∃ x ∈ r, litV x l = true := by
  unfold heldN
  rw [Ne, List.length_eq_zero_iff, List.filter_eq_nil_iff]
  constructor
  · intro h
    apply Classical.byContradiction
    intro hn
    exact h fun x hx hl => hn ⟨x, hx, hl⟩
  · rintro ⟨x, hx, hl⟩ h
    exact h x hx hl
theorem mem_live (s : Sto) (c : Cla) (l : MLit) : l ∈ liveL s c ↔ l ∈ c ∧ ∃ x ∈ rowOf s l, litV x l = true := by
  unfold liveL
  rw [List.mem_filter, decide_eq_true_eq, held_pos]
theorem oneB_iff (c : Cla) (k : Nat) (z : Int) : oneB c k z = true ↔ ∃ l ∈ c, l.var = (k : Int) ∧ litV z l = true := by
  unfold oneB
  rw [List.any_eq_true]
  exact ⟨fun ⟨l, h1, h2⟩ => ⟨l, h1, by simpa using h2⟩, fun ⟨l, h1, h2⟩ => ⟨l, h1, by simpa using h2⟩⟩
theorem claB_iff (c : Cla) (vals : List Int) : claB c vals = true ↔ ∃ l ∈ c, litV (vals.getD l.var.toNat 0) l = true := by unfold claB; rw [List.any_eq_true]

/-- All literals of a clause are of variables of the store. -/
def ClaIn (s : Sto) (c : Cla) : Prop := ∀ l ∈ c, 0 ≤ l.var ∧ l.var < (s.length : Int)
theorem has_val (s : Sto) (vals : List Int) (h : hasS s vals = true) (l : MLit) (h0 : 0 ≤ l.var) (h1 : l.var < (s.length : Int)) : vals.getD l.var.toNat 0 ∈ rowOf s l := by
  rw [hasS_iff] at h
  have hi : l.var.toNat < s.length := by omega
  have e1 : s[l.var.toNat]? = some s[l.var.toNat] := by simp [hi]
  have e2 : vals[l.var.toNat]? = some (vals[l.var.toNat]'(by omega)) := by simp [show l.var.toNat < vals.length by omega]
  unfold rowOf
  rw [List.getD_eq_getElem?_getD, List.getD_eq_getElem?_getD, e1, e2]
  exact h.2 _ _ _ e1 e2
theorem has_not_failed (s : Sto) (vals : List Int) (h : hasS s vals = true) : failedS s = false := by
  rw [hasS_iff] at h
  cases hf : failedS s
  · rfl
  · unfold failedS at hf
    rw [List.any_eq_true] at hf
    obtain ⟨r, hr, h0⟩ := hf
    obtain ⟨k, hk⟩ := List.mem_iff_getElem?.1 hr
    have hkl : k < s.length := (List.getElem?_eq_some_iff.1 hk).1
    have e2 : vals[k]? = some (vals[k]'(by omega)) := by simp [show k < vals.length by omega]
    have := h.2 k r _ hk e2
    have hn : r = [] := List.eq_nil_of_length_eq_zero (by simpa using h0)
    rw [hn] at this
    cases this
/-- NO VALUES OF WHICH THE CLAUSE HOLDS ARE LOST BY UNIT. -/
theorem unit_keeps (s : Sto) (c : Cla) (hc : ClaIn s c) (vals : List Int) (hs : hasS s vals = true) (hh : claB c vals = true) : hasS (unitS s c) vals = true := by
  obtain ⟨l, hl, hlv⟩ := (claB_iff c vals).1 hh
  obtain ⟨h0, h1⟩ := hc l hl
  have hlive : l ∈ liveL s c := (mem_live s c l).2 ⟨hl, _, has_val s vals hs l h0 h1, hlv⟩
  unfold unitS
  rw [has_not_failed s vals hs, if_neg (by simp)]
  match hq : liveL s c with
  | [] => rw [hq] at hlive; cases hlive
  | l0 :: rest =>
    simp only
    split
    · rename_i hall
      have hv : l.var = l0.var := by
        rw [hq] at hlive
        rcases List.mem_cons.1 hlive with rfl | h
        · rfl
        · simpa using List.all_eq_true.1 hall l h
      rw [hasS_iff] at hs ⊢
      refine ⟨by rw [siftS_len]; exact hs.1, fun k r x hr hx => ?_⟩
      obtain ⟨q, hq2, rfl⟩ := siftS_back _ _ _ _ hr
      refine List.mem_filter.2 ⟨hs.2 k q x hq2 hx, ?_⟩
      by_cases hk : (k : Int) = l0.var
      · simp only [hk, ne_eq, not_true_eq_false, decide_false, Bool.false_or]
        rw [oneB_iff]
        refine ⟨l, hl, by rw [hv, hk], ?_⟩
        have : l.var.toNat = k := by rw [hv, ← hk]; simp
        rw [this, List.getD_eq_getElem?_getD, hx] at hlv
        exact hlv
      · simp [hk]
    · exact hs
/-- DENY LEAVES JUST THE VALUES OF WHICH THE CLAUSE DOES NOT HOLD. -/
theorem deny_has (s : Sto) (c : Cla) (hc : ClaIn s c) (vals : List Int) (hs : hasS s vals = true) : hasS (denyS s c) vals = !claB c vals := by
  have hs2 := (hasS_iff s vals).1 hs
  rw [Bool.eq_iff_iff, hasS_iff]
  constructor
  · rintro ⟨_, h⟩
    cases hh : claB c vals
    · rfl
    · obtain ⟨l, hl, hlv⟩ := (claB_iff c vals).1 hh
      obtain ⟨h0, h1⟩ := hc l hl
      have hi : l.var.toNat < s.length := by omega
      have e1 : s[l.var.toNat]? = some s[l.var.toNat] := by simp [hi]
      have e2 : vals[l.var.toNat]? = some (vals[l.var.toNat]'(by omega)) := by simp [show l.var.toNat < vals.length by omega]
      have hm := h _ _ _ (siftS_get s _ _ _ e1) e2
      have hno := (List.mem_filter.1 hm).2
      have hyes : oneB c l.var.toNat (vals[l.var.toNat]'(by omega)) = true := by
        rw [oneB_iff]
        refine ⟨l, hl, by omega, ?_⟩
        rw [List.getD_eq_getElem?_getD, e2] at hlv
        exact hlv
      rw [hyes] at hno
      cases hno
  · intro hno
    refine ⟨by unfold denyS; rw [siftS_len]; exact hs2.1, fun k r x hr hx => ?_⟩
    obtain ⟨q, hq, rfl⟩ := siftS_back _ _ _ _ hr
    refine List.mem_filter.2 ⟨hs2.2 k q x hq hx, ?_⟩
    cases ho : oneB c k x
    · rfl
    · obtain ⟨l, hl, hk, hlv⟩ := (oneB_iff c k x).1 ho
      have : claB c vals = true := by
        rw [claB_iff]
        refine ⟨l, hl, ?_⟩
        have hkn : l.var.toNat = k := by rw [hk]; simp
        rw [hkn, List.getD_eq_getElem?_getD, hx]
        exact hlv
      rw [this] at hno
      cases hno
theorem checkV_unit (vs : List MVar) (s : Sto) (c : Cla) (hs : checkV vs s = 0) : checkV vs (unitS s c) = 0 := by
  unfold unitS
  split
  · exact hs
  · split
    · exact checkV_sift _ _ _ hs
    · split
      · exact checkV_sift _ _ _ hs
      · exact hs
theorem checkV_deny (vs : List MVar) (s : Sto) (c : Cla) (hs : checkV vs s = 0) : checkV vs (denyS s c) = 0 := checkV_sift _ _ _ hs

/-- One store is within another. -/
def SubS (t s : Sto) : Prop := t.length = s.length ∧ ∀ (k : Nat) r q, t[k]? = some r → s[k]? = some q → ∀ x ∈ r, x ∈ q
theorem SubS.refl (s : Sto) : SubS s s := ⟨rfl, fun k r q hr hq x hx => by rw [hr] at hq; cases hq; exact hx⟩
theorem SubS.trans {a b c : Sto} (h : SubS a b) (k : SubS b c) : SubS a c := by
  refine ⟨h.1.trans k.1, fun i r q hr hq x hx => ?_⟩
  have hi : i < b.length := by rw [← h.1]; exact (List.getElem?_eq_some_iff.1 hr).1
  have e : b[i]? = some b[i] := by simp [hi]
  exact k.2 i _ q e hq x (h.2 i r _ hr e x hx)
theorem sub_sift (s : Sto) (p : Nat → Int → Bool) : SubS (siftS s p) s := by
  refine ⟨siftS_len _ _, fun k r q hr hq x hx => ?_⟩
  obtain ⟨a, ha, rfl⟩ := siftS_back _ _ _ _ hr
  rw [hq] at ha; cases ha
  exact (List.mem_filter.1 hx).1
theorem sub_unit (s : Sto) (c : Cla) : SubS (unitS s c) s := by
  unfold unitS
  split
  · exact SubS.refl _
  · split
    · exact sub_sift _ _
    · split
      · exact sub_sift _ _
      · exact SubS.refl _
theorem sub_row {t s : Sto} (h : SubS t s) (l : MLit) : ∀ x ∈ rowOf t l, x ∈ rowOf s l := by
  intro x hx
  unfold rowOf at *
  rw [List.getD_eq_getElem?_getD] at *
  cases hq : t[l.var.toNat]? with
  | none => rw [hq] at hx; cases hx
  | some r =>
    rw [hq] at hx
    have hi : l.var.toNat < s.length := by rw [← h.1]; exact (List.getElem?_eq_some_iff.1 hq).1
    have e : s[l.var.toNat]? = some s[l.var.toNat] := by simp [hi]
    rw [e]
    exact h.2 _ _ _ hq e x hx
/-- WHAT UNIT LEAVES OF LESS IS LESS. -/
theorem unit_mono (s t : Sto) (c : Cla) (h : SubS t s) (ht : failedS t = false) (hs : failedS s = false) : SubS (unitS t c) (unitS s c) := by
  have hlive : ∀ l ∈ liveL t c, l ∈ liveL s c := fun l hl => by
    rw [mem_live] at *
    obtain ⟨h1, x, hx, h2⟩ := hl
    exact ⟨h1, x, sub_row h l x hx, h2⟩
  unfold unitS
  rw [ht, hs, if_neg (by simp), if_neg (by simp)]
  match hqs : liveL s c with
  | [] =>
    have hqt : liveL t c = [] := by
      rcases hq : liveL t c with _ | ⟨a, r⟩
      · rfl
      · have := hlive a (by rw [hq]; exact List.mem_cons_self ..)
        rw [hqs] at this; cases this
    rw [hqt]
    simp only
    refine ⟨by rw [siftS_len, siftS_len]; exact h.1, fun k r q hr hq x hx => ?_⟩
    obtain ⟨a, ha, rfl⟩ := siftS_back _ _ _ _ hr
    simp at hx
  | l0 :: rest =>
    simp only
    by_cases hall : rest.all (fun l => decide (l.var = l0.var)) = true
    · rw [if_pos hall]
      have hv : ∀ l ∈ liveL s c, l.var = l0.var := fun l hl => by
        rw [hqs] at hl
        rcases List.mem_cons.1 hl with rfl | h
        · rfl
        · simpa using List.all_eq_true.1 hall l h
      match hqt : liveL t c with
      | [] =>
        simp only
        refine ⟨by rw [siftS_len, siftS_len]; exact h.1, fun k r q hr hq x hx => ?_⟩
        obtain ⟨a, ha, rfl⟩ := siftS_back _ _ _ _ hr
        simp at hx
      | a :: r =>
        simp only
        have ha : a.var = l0.var := hv a (hlive a (by rw [hqt]; exact List.mem_cons_self ..))
        have hall2 : r.all (fun l => decide (l.var = a.var)) = true := by
          rw [List.all_eq_true]
          intro l hl
          have := hv l (hlive l (by rw [hqt]; exact List.mem_cons_of_mem _ hl))
          simp [this, ha]
        rw [if_pos hall2, ha]
        refine ⟨by rw [siftS_len, siftS_len]; exact h.1, fun k r q hr hq x hx => ?_⟩
        obtain ⟨b, hb, rfl⟩ := siftS_back _ _ _ _ hr
        obtain ⟨d, hd, rfl⟩ := siftS_back _ _ _ _ hq
        obtain ⟨h1, h2⟩ := List.mem_filter.1 hx
        exact List.mem_filter.2 ⟨h.2 k b d hb hd x h1, h2⟩
    · rw [if_neg hall]
      have := sub_unit t c
      unfold unitS at this
      rw [ht, if_neg (by simp)] at this
      exact this.trans h

theorem sift_same (s : Sto) (p : Nat → Int → Bool) (h : ∀ (k : Nat) r z, s[k]? = some r → z ∈ r → p k z = true) : siftS s p = s := by
  refine sto_ext _ _ (siftS_len _ _) fun k r q hr hq => ?_
  obtain ⟨a, ha, rfl⟩ := siftS_back _ _ _ _ hr
  rw [hq] at ha; cases ha
  exact List.filter_eq_self.2 fun z hz => h k _ z hq hz
theorem live_iff (s : Sto) (c : Cla) (l : MLit) : l ∈ liveL s c ↔ l ∈ c ∧ liveB s l = true := by
  rw [mem_live]
  unfold liveB
  rw [List.any_eq_true]
/-- What the program goes by: none can hold. -/
theorem unit_none (s : Sto) (c : Cla) (hf : failedS s = false) (h : c.any (liveB s) = false) : unitS s c = siftS s fun _ _ => false := by
  have hn : liveL s c = [] := by
    rcases hq : liveL s c with _ | ⟨a, r⟩
    · rfl
    · obtain ⟨h1, h2⟩ := (live_iff s c a).1 (by rw [hq]; exact List.mem_cons_self ..)
      have : c.any (liveB s) = true := List.any_eq_true.2 ⟨a, h1, h2⟩
      rw [h] at this; cases this
  unfold unitS
  rw [hf, if_neg (by simp), hn]
theorem unit_cases (s : Sto) (c : Cla) (hf : failedS s = false) (t : MLit) (ht : t ∈ c) (hl : liveB s t = true) :
    unitS s c = if c.any (fun l => !decide (l.var = t.var) && liveB s l) then s else siftS s (fun k z => decide ((k : Int) ≠ t.var) || oneB c k z) := by
  have hm : t ∈ liveL s c := (live_iff s c t).2 ⟨ht, hl⟩
  unfold unitS
  rw [hf, if_neg (by simp)]
  match hq : liveL s c with
  | [] => rw [hq] at hm; cases hm
  | l0 :: rest =>
    simp only
    by_cases hall : rest.all (fun l => decide (l.var = l0.var)) = true
    · have hv : ∀ l ∈ liveL s c, l.var = l0.var := fun l hl => by
        rw [hq] at hl
        rcases List.mem_cons.1 hl with rfl | h
        · rfl
        · simpa using List.all_eq_true.1 hall l h
      have hno : c.any (fun l => !decide (l.var = t.var) && liveB s l) = false := by
        rw [List.any_eq_false]
        intro l hlc hx
        simp only [Bool.and_eq_true, Bool.not_eq_true', decide_eq_false_iff_not] at hx
        exact hx.1 ((hv l ((live_iff s c l).2 ⟨hlc, hx.2⟩)).trans (hv t hm).symm)
      rw [if_pos hall, hno, hv t hm]
      rfl
    · rw [if_neg hall]
      have hyes : c.any (fun l => !decide (l.var = t.var) && liveB s l) = true := by
        have h1 : ∃ l ∈ rest, l.var ≠ l0.var := by
          apply Classical.byContradiction
          intro hn
          apply hall
          rw [List.all_eq_true]
          intro l hl
          by_cases e : l.var = l0.var
          · simp [e]
          · exact absurd ⟨l, hl, e⟩ hn
        obtain ⟨l, hl1, hne⟩ := h1
        have hlm : l ∈ liveL s c := by rw [hq]; exact List.mem_cons_of_mem _ hl1
        have h0m : l0 ∈ liveL s c := by rw [hq]; exact List.mem_cons_self ..
        rw [List.any_eq_true]
        by_cases e : l.var = t.var
        · have : l0.var ≠ t.var := fun e2 => hne (e.trans e2.symm)
          obtain ⟨a1, a2⟩ := (live_iff s c l0).1 h0m
          exact ⟨l0, a1, by simp [this, a2]⟩
        · obtain ⟨a1, a2⟩ := (live_iff s c l).1 hlm
          exact ⟨l, a1, by simp [e, a2]⟩
      rw [hyes]
      rfl
theorem unit_many (s : Sto) (c : Cla) (hf : failedS s = false) (t : MLit) (ht : t ∈ c) (hl : liveB s t = true) (h : c.any (fun l => !decide (l.var = t.var) && liveB s l) = true) : unitS s c = s := by
  rw [unit_cases s c hf t ht hl, h, if_pos rfl]
theorem unit_one (s : Sto) (c : Cla) (hf : failedS s = false) (t : MLit) (ht : t ∈ c) (hl : liveB s t = true) (h : c.any (fun l => !decide (l.var = t.var) && liveB s l) = false) :
    unitS s c = siftS s (fun k z => decide ((k : Int) ≠ t.var) || oneB c k z) := by
  rw [unit_cases s c hf t ht hl, h, if_neg (by simp)]
theorem unit_stays (s : Sto) (c : Cla) (hf : failedS s = false) (t : MLit) (ht : t ∈ c) (hl : liveB s t = true) (h : c.any (fun l => !decide (l.var = t.var) && liveB s l) = false)
    (k : Nat) (r : List Int) (hk : t.var = (k : Int)) (hr : s[k]? = some r) (hg : r.any (fun z => !oneB c k z) = false) : unitS s c = s := by
  rw [unit_one s c hf t ht hl h]
  refine sift_same _ _ fun j q z hq hz => ?_
  by_cases e : (j : Int) = t.var
  · have : j = k := by omega
    subst this
    rw [hr] at hq; cases hq
    have := (List.any_eq_false.1 hg) z hz
    simp only [Bool.not_eq_true', Bool.not_eq_false] at this
    simp [this]
  · simp [e]
end Go.Proofs.YtggkbhafbhhhhadGreat
/-
  WALKS: package truth: OneOf.
-/
namespace Go.Proofs.YtggkbhafbhhhhadGreat
open Go.RowKit

set_option maxHeartbeats 400000 in
set_option maxRecDepth 100000 in
theorem ofv_any (l : MLit) (x z : Int) (b1 b2 : Nat) (w : World) (h1 : w.cell? ⟨b1, 0, none⟩ = some (.int .i64 x)) (h2 : w.cell? ⟨b2, 0, none⟩ = some (.int .i64 z)) :
    Calls Tryz.prog 125 #[.agg #[.int .i64 l.var, .int .i64 l.op, .int .i64 l.n], .pointer (some ⟨b1, 0, none⟩), .pointer (some ⟨b2, 0, none⟩)] w fun e w' => e = .returned (.bool (decide (l.var = x) && litV z l)) ∧ Below w.heap.size w w' := by
  have l1 : b1 < w.heap.size := World.block_lt_of_cell? w _ h1
  have l2 : b2 < w.heap.size := World.block_lt_of_cell? w _ h2
  by_cases hq : l.var = x
  · have g0 : (l.var == x) = true := by simpa using hq
    have HN : Hid ((decide (l.var = x) && litV z l) = litV z l) := by show _ = _; rw [decide_eq_true hq]; rfl
    rw [HN.out]
    clear hq
    go_enter Tryz.func125, Tryz.ntmps125
    go_wp2_with fail
    refine (lit_true l z _).mono ?_
    rintro e w1 ⟨rfl, hb1⟩
    have hb2 : Below w.heap.size w w1 := (below_alloc _ _).trans (hb1.mono (by simp))
    clear hb1
    go_wp2
    go_ret
    exact ⟨rfl, hb2⟩
  · have g0 : (l.var == x) = false := by simpa using hq
    have HN : Hid ((decide (l.var = x) && litV z l) = false) := by show _ = _; rw [decide_eq_false hq]; rfl
    rw [HN.out]
    clear hq
    go_enter Tryz.func125, Tryz.ntmps125
    go_wp2
    go_ret
    exact ⟨rfl, below_alloc _ _⟩
theorem enters_ofv (args : Array Value) (w' : World) : Sem.run Tryz.prog (callFunc 125 args) w' = .ok (.enter 125 args) w' := by
  simp [callFunc, go_sem, Tryz.func125, Tryz.f125]

set_option maxHeartbeats 400000 in
set_option maxRecDepth 100000 in
theorem one_of (c : Cla) (k : Nat) (z : Int) (u : Value) (w : World) (hu : LArg w u c) :
    Calls Tryz.prog 83 #[u, .int .i64 k, .int .i64 z] w fun e w' => e = .returned (.bool (oneB c k z)) ∧ Below w.heap.size w w' := by
  have HUA : Hid (∀ w' : World, Below w.heap.size w w' → LArg w' u c) := fun w' h => LArg.below h hu
  obtain ⟨a1, c1, rfl, _, _⟩ := hu
  go_enter Tryz.func83, Tryz.ntmps83
  go_wp2_with fail
  refine (containsf_lits 125 _ (fun l => decide (l.var = (k : Int)) && litV z l) c _ _ (HUA.out _ ((below_alloc _ _).alloc (by simp) _)) ⟨enters_ofv, ?_⟩).mono ?_
  · intro l w' hl hb'
    refine ofv_any l k z w.heap.size (w.heap.size + 1) w' ?_ ?_
    · exact (hb'.cell (by simp; omega)).trans ((World.cell?_alloc_past _ _ _ (by simp)).trans (World.cell?_alloc_at _ _ _ 0 (by simp)))
    · exact (hb'.cell (by simp)).trans (World.cell?_alloc_at _ _ _ 0 (by simp))
  rintro e w3 ⟨rfl, hb3⟩
  have hb4 : Below w.heap.size w w3 := ((below_alloc _ _).alloc (by simp) _).trans (hb3.mono (by simp; omega))
  clear hb3
  go_wp2
  go_ret
  exact ⟨rfl, hb4⟩
end Go.Proofs.YtggkbhafbhhhhadGreat
/-
  WALKS: package store: rises; slices.Index, Contains, IndexFunc, ContainsFunc over numbers.
-/
namespace Go.Proofs.YtggkbhafbhhhhadGreat
open Go.RowKit

theorem draws_below {w w' : World} {n : Nat} (h : w' = w.drewN n) : Below w.heap.size w w' := by rw [h]; exact below_drewN (Below.refl _ _) _
theorem rises_get (l : List Int) : risesB l = true ↔ ∀ (i : Nat) x y, l[i]? = some x → l[i + 1]? = some y → x < y := by
  induction l with
  | nil => simp [risesB]
  | cons a r ih =>
    cases r with
    | nil => simp [risesB]
    | cons b r =>
      simp only [risesB, Bool.and_eq_true, decide_eq_true_eq]
      rw [ih]
      constructor
      · rintro ⟨h0, h1⟩ i x y hx hy
        cases i with
        | zero => simp at hx hy; omega
        | succ i => exact h1 i x y (by simpa using hx) (by simpa using hy)
      · intro h
        exact ⟨h 0 a b rfl rfl, fun i x y hx hy => h (i + 1) x y (by simpa using hx) (by simpa using hy)⟩
theorem rises_take (l : List Int) (k : Nat) (x y : Int) (hx : l[k]? = some x) (hy : l[k + 1]? = some y) (h : risesB (l.take (k + 1)) = true) (hxy : x < y) : risesB (l.take (k + 1 + 1)) = true := by
  rw [rises_get] at *
  intro i u v hu hv
  rw [List.getElem?_take] at hu hv
  split at hv
  · split at hu
    · by_cases hi : i = k
      · subst hi; rw [hx] at hu; rw [hy] at hv; cases hu; cases hv; exact hxy
      · exact h i u v (by rw [List.getElem?_take, if_pos (by omega)]; exact hu) (by rw [List.getElem?_take, if_pos (by omega)]; exact hv)
    · cases hu
  · cases hv
theorem rises_hit (l : List Int) (k : Nat) (x y : Int) (hx : l[k]? = some x) (hy : l[k + 1]? = some y) (hxy : y ≤ x) : risesB l = false := by
  cases h : risesB l
  · rfl
  · have := (rises_get l).1 h k x y hx hy; omega
theorem rises_one (l : List Int) : risesB (l.take 1) = true := by
  rcases l with _ | ⟨a, r⟩ <;> simp [risesB]

set_option maxHeartbeats 800000 in
set_option maxRecDepth 100000 in
theorem rises_any (l : List Int) (v : Value) (w : World) (hv : IArg w v l) :
    Calls Tryz.prog 129 #[v] w fun e w' => e = .returned (.bool (risesB l)) ∧ ∃ n, w' = w.drewN n := by
  obtain ⟨a, c, rfl, hm, hr⟩ := hv
  have HV : Hid (∀ (i : Nat) (z : Int), l[i]? = some z → ∃ b off, a = some ⟨b, off, none⟩ ∧ b < w.heap.size ∧ w.cell? ⟨b, off + i, none⟩ = some (.int .i64 z)) := hr
  obtain ⟨R, hR⟩ : ∃ R, risesB l = R := ⟨_, rfl⟩
  rw [hR]
  have HR : Hid (risesB l = R) := hR
  unfold maxLen at hm
  obtain ⟨hm1, hm⟩ := hm
  clear hr hR
  go_enter Tryz.func129, Tryz.ntmps129
  go_wp2_with fail
  go_loopw [3] (fun i wr => ∃ k : Nat, (k = 0 ∨ k + 1 ≤ l.length) ∧ i = .int .i64 ((k : Int) + 1) ∧ Hid (risesB (l.take (k + 1)) = true) ∧ ∃ n, wr = w.drewN n) (fun i _ => l.length - (intOf i).toNat)
  case atStart => exact ⟨0, by omega, rfl, rises_one l, 0, rfl⟩
  case round =>
    obtain ⟨k, hk, rfl, hall, nq, rfl⟩ := hrel
    by_cases hlt : k + 1 < l.length
    · obtain ⟨y, hy⟩ : ∃ y, l[k + 1]? = some y := ⟨l[k + 1], by simp [hlt]⟩
      obtain ⟨x, hx⟩ : ∃ x, l[k]? = some x := ⟨l[k]'(by omega), by simp [show k < l.length by omega]⟩
      obtain ⟨b, off, ha, hb, hc⟩ := HV.out (k + 1) y hy
      obtain ⟨b', off', ha', hb', hd⟩ := HV.out k x hx
      have HX : Hid (l[k]? = some x) := hx
      have HY : Hid (l[k + 1]? = some y) := hy
      rw [ha] at ha'
      cases ha'
      subst ha
      clear hx hy hb'
      by_cases hq : y ≤ x
      · have HN : Hid (R = false) := by rw [← HR.out]; exact rises_hit l k x y HX.out HY.out hq
        go_wp2
        go_quiet (fail)
        go_wp2
        go_ret
        exact ⟨ret_bool HN.out.symm, _, drewN_drewN _ _ _⟩
      · have HN : Hid (risesB (l.take (k + 1 + 1)) = true) := rises_take l k x y HX.out HY.out hall.out (by omega)
        go_wp2
        go_quiet (fail)
        go_wp2
        go_roundw
        case rel => exact ⟨k + 1, by omega, by go_num, HN, _, rfl⟩
        case measure => simp [intOf]; omega
    · have HN : Hid (R = true) := by
        have := hall.out; rw [List.take_of_length_le (by omega), HR.out] at this; exact this
      go_wp2
      go_ret
      exact ⟨ret_bool HN.out.symm, _, rfl⟩

theorem any_hit {α : Type} (p : α → Bool) (l : List α) (m : Nat) (t : α) (ht : l[m]? = some t) (h : p t = true) : l.any p = true := List.any_eq_true.2 ⟨t, List.mem_of_getElem? ht, h⟩
theorem any_next {α : Type} (p : α → Bool) (l : List α) (m : Nat) (t : α) (ht : l[m]? = some t) (h0 : (l.take m).any p = false) (h : p t = false) : (l.take (m + 1)).any p = false := by
  rw [List.take_add_one, ht, List.any_append, h0]; simp [h]
theorem any_end {α : Type} (p : α → Bool) (l : List α) (m : Nat) (h : ¬ m < l.length) (h0 : (l.take m).any p = false) : l.any p = false := by
  rwa [List.take_of_length_le (by omega)] at h0

set_option maxHeartbeats 400000 in
set_option maxRecDepth 100000 in
theorem index_ints (l : List Int) (v : Value) (n : Int) (w : World) (hv : IArg w v l) :
    Calls Tryz.prog 95 #[v, .int .i64 n] w fun e w' => (∃ z : Int, e = .returned (.int .i64 z) ∧ decide (0 ≤ z) = hasB l n) ∧ w' = w := by
  obtain ⟨a, c, rfl, hm, hr⟩ := hv
  have HV : Hid (∀ (i : Nat) (z : Int), l[i]? = some z → ∃ b off, a = some ⟨b, off, none⟩ ∧ b < w.heap.size ∧ w.cell? ⟨b, off + i, none⟩ = some (.int .i64 z)) := hr
  obtain ⟨R, hR⟩ : ∃ R, hasB l n = R := ⟨_, rfl⟩
  rw [hR]
  have HR : Hid ((l.any fun k => n == k) = R) := hR
  unfold maxLen at hm
  obtain ⟨hm1, hm⟩ := hm
  clear hr hR
  go_enter Tryz.func95, Tryz.ntmps95
  go_wp2_with fail
  go_loop [8] (fun i => ∃ m : Nat, m ≤ l.length ∧ i = .int .i64 m ∧ Hid ((l.take m).any (fun k => n == k) = false)) (fun i => l.length - (intOf i).toNat)
  case atStart => exact ⟨0, by omega, rfl, rfl⟩
  case round =>
    obtain ⟨m, hml, rfl, hall⟩ := hrel
    by_cases hlt : m < l.length
    · obtain ⟨z, hz⟩ : ∃ z, l[m]? = some z := ⟨l[m], by simp [hlt]⟩
      obtain ⟨b, off, ha, hb, hc⟩ := HV.out m z hz
      have HZ : Hid (l[m]? = some z) := hz
      subst ha
      clear hz
      cases hq : (n == z)
      · have HN : Hid ((l.take (m + 1)).any (fun k => n == k) = false) := any_next _ l m z HZ.out hall.out hq
        go_wp2
        go_round
        case rel => exact ⟨m + 1, by omega, by go_num, HN⟩
        case measure => simp [intOf]; omega
      · have HN : Hid (R = true) := by rw [← HR.out]; exact any_hit (fun k => n == k) l m z HZ.out hq
        go_wp2
        go_ret
        exact ⟨⟨_, rfl, by rw [HN.out]; simp⟩, rfl⟩
    · have HN : Hid (R = false) := by rw [← HR.out]; exact any_end _ l m hlt hall.out
      go_wp2
      go_ret
      exact ⟨⟨_, rfl, by rw [HN.out]; rfl⟩, rfl⟩

set_option maxHeartbeats 400000 in
theorem contains_ints (l : List Int) (v : Value) (n : Int) (w : World) (hv : IArg w v l) :
    Calls Tryz.prog 50 #[v, .int .i64 n] w fun e w' => e = .returned (.bool (hasB l n)) ∧ w' = w := by
  go_enter Tryz.func50, Tryz.ntmps50
  go_wp2_with fail
  refine (index_ints l v n _ hv).mono ?_
  rintro e w ⟨⟨z, rfl, hz⟩, rfl⟩
  have HZ : Hid (decide (0 ≤ z) = hasB l n) := hz
  clear hz
  go_wp2
  go_ret
  exact ⟨ret_bool HZ.out, rfl⟩

/-- A closure over numbers that only reads what is old. -/
def ClosI (F : Nat) (caps : Array Value) (p : Int → Bool) (w : World) : Prop :=
  (∀ (args : Array Value) (w' : World), Sem.run Tryz.prog (callFunc F args) w' = .ok (.enter F args) w') ∧ ∀ (z : Int) (w' : World), Below w.heap.size w w' → Calls Tryz.prog F (#[.int .i64 z] ++ caps) w' fun e w'' => e = .returned (.bool (p z)) ∧ Below w'.heap.size w' w''

set_option maxHeartbeats 800000 in
set_option maxRecDepth 100000 in
theorem indexf_ints (F : Nat) (caps : Array Value) (p : Int → Bool) (l : List Int) (v : Value) (w : World) (hv : IArg w v l) (hF : ClosI F caps p w) :
    Calls Tryz.prog 96 #[v, .func (.func F) #[] caps] w fun e w' => (∃ z : Int, e = .returned (.int .i64 z) ∧ decide (0 ≤ z) = l.any p) ∧ Below w.heap.size w w' := by
  obtain ⟨a, c, rfl, hm, hr⟩ := hv
  have HV : Hid (∀ (i : Nat) (z : Int), l[i]? = some z → ∃ b off, a = some ⟨b, off, none⟩ ∧ b < w.heap.size ∧ w.cell? ⟨b, off + i, none⟩ = some (.int .i64 z)) := hr
  obtain ⟨R, hR⟩ : ∃ R, l.any p = R := ⟨_, rfl⟩
  rw [hR]
  have HR : Hid (l.any p = R) := hR
  have HF : Hid (ClosI F caps p w) := hF
  unfold maxLen at hm
  obtain ⟨hm1, hm⟩ := hm
  clear hr hR hF
  go_enter Tryz.func96, Tryz.ntmps96
  go_wp2_with fail
  go_loopw [8] (fun i wr => ∃ m : Nat, m ≤ l.length ∧ i = .int .i64 m ∧ Hid ((l.take m).any p = false) ∧ Below w.heap.size w wr) (fun i _ => l.length - (intOf i).toNat)
  case atStart => exact ⟨0, by omega, rfl, rfl, Below.refl _ _⟩
  case round =>
    obtain ⟨m, hml, rfl, hall, hbw⟩ := hrel
    by_cases hlt : m < l.length
    · obtain ⟨z, hz⟩ : ∃ z, l[m]? = some z := ⟨l[m], by simp [hlt]⟩
      obtain ⟨b, off, ha, hb, hc0⟩ := HV.out m z hz
      have hc := (hbw.cell (p := ⟨b, off + m, none⟩) hb).trans hc0
      have HZ : Hid (l[m]? = some z) := hz
      subst ha
      clear hz hc0
      cases hq : p z
      · have HN : Hid ((l.take (m + 1)).any p = false) := any_next _ l m z HZ.out hall.out hq
        go_wp2_with fail
        rw [HF.out.1, Oper.upon_enter]
        refine (HF.out.2 z _ hbw).mono ?_
        rintro e w1 ⟨rfl, hb1⟩
        rw [hq]
        clear hq
        go_wp2
        go_roundw
        case rel => exact ⟨m + 1, by omega, by go_num, HN, hbw.trans (hb1.mono hbw.size)⟩
        case measure => simp [intOf]; omega
      · have HN : Hid (R = true) := by rw [← HR.out]; exact any_hit p l m z HZ.out hq
        go_wp2_with fail
        rw [HF.out.1, Oper.upon_enter]
        refine (HF.out.2 z _ hbw).mono ?_
        rintro e w1 ⟨rfl, hb1⟩
        rw [hq]
        clear hq
        go_wp2
        go_ret
        exact ⟨⟨_, rfl, by rw [HN.out]; simp⟩, hbw.trans (hb1.mono hbw.size)⟩
    · have HN : Hid (R = false) := by rw [← HR.out]; exact any_end _ l m hlt hall.out
      go_wp2
      go_ret
      exact ⟨⟨_, rfl, by rw [HN.out]; rfl⟩, hbw⟩

set_option maxHeartbeats 400000 in
theorem containsf_ints (F : Nat) (caps : Array Value) (p : Int → Bool) (l : List Int) (v : Value) (w : World) (hv : IArg w v l) (hF : ClosI F caps p w) :
    Calls Tryz.prog 51 #[v, .func (.func F) #[] caps] w fun e w' => e = .returned (.bool (l.any p)) ∧ Below w.heap.size w w' := by
  go_enter Tryz.func51, Tryz.ntmps51
  go_wp2_with fail
  refine (indexf_ints F caps p l v _ hv hF).mono ?_
  rintro e w1 ⟨⟨z, rfl, hz⟩, hb1⟩
  have HZ : Hid (decide (0 ≤ z) = l.any p) := hz
  clear hz
  go_wp2
  go_ret
  exact ⟨ret_bool HZ.out, hb1⟩
end Go.Proofs.YtggkbhafbhhhhadGreat
/-
  WALKS: package store: checkValues, check.
-/
namespace Go.Proofs.YtggkbhafbhhhhadGreat
open Go.RowKit

set_option maxHeartbeats 400000 in
set_option maxRecDepth 100000 in
theorem beyond_any (vs : List MVar) (a : Value) (b1 b2 k : Nat) (t : MVar) (z : Int) (w : World) (hv : VArg w a vs) (ht : vs[k]? = some t) (h1 : w.cell? ⟨b1, 0, none⟩ = some a) (h2 : w.cell? ⟨b2, 0, none⟩ = some (.int .i64 k)) :
    Calls Tryz.prog 128 #[.int .i64 z, .pointer (some ⟨b1, 0, none⟩), .pointer (some ⟨b2, 0, none⟩)] w fun e w' => e = .returned (.bool (!insideB t z)) ∧ w' = w := by
  obtain ⟨a', c, rfl, hm, hr⟩ := hv
  have hkl : k < vs.length := (List.getElem?_eq_some_iff.1 ht).1
  obtain ⟨_, b, off, rfl, hlt, c0, c1, c2⟩ := hr k t ht
  unfold maxLen at hm
  obtain ⟨hm1, hm⟩ := hm
  clear hr ht
  unfold insideB
  by_cases q1 : z < t.lo
  · go_enter Tryz.func128, Tryz.ntmps128
    go_wp2
    go_ret
    exact ⟨ret_bool (by first | rfl | (simp; omega)), rfl⟩
  · by_cases q2 : t.hi < z
    · go_enter Tryz.func128, Tryz.ntmps128
      go_wp2
      go_ret
      exact ⟨ret_bool (by first | rfl | (simp; omega)), rfl⟩
    · go_enter Tryz.func128, Tryz.ntmps128
      go_wp2
      go_ret
      exact ⟨ret_bool (by first | rfl | (simp; omega)), rfl⟩

theorem enters_beyond (args : Array Value) (w' : World) : Sem.run Tryz.prog (callFunc 128 args) w' = .ok (.enter 128 args) w' := by
  simp [callFunc, go_sem, Tryz.func128, Tryz.f128]
theorem any_not {α : Type} (p : α → Bool) (l : List α) : (l.any fun x => !p x) = !l.all p := by
  induction l with
  | nil => rfl
  | cons a r ih => rw [List.any_cons, List.all_cons, ih]; cases p a <;> simp

set_option maxHeartbeats 1600000 in
set_option maxRecDepth 100000 in
theorem values_any (vs : List MVar) (s : Sto) (a v : Value) (w : World) (ha : VArg w a vs) (hv : RArg w v s) :
    Calls Tryz.prog 94 #[a, v] w fun e w' => e = .returned (.int .i64 (checkV vs s)) ∧ Below w.heap.size w w' := by
  have HA : Hid (∀ w' : World, Below w.heap.size w w' → VArg w' a vs) := fun w' h => VArg.below h ha
  have HVB : Hid (∀ w' : World, Below w.heap.size w w' → RArg w' v s) := fun w' h => RArg.below h hv
  obtain ⟨a1, c1, rfl, hl1, hr1⟩ := ha
  obtain ⟨a2, c2, rfl, hl2, hr2⟩ := hv
  obtain ⟨R, hR⟩ : ∃ R, checkV vs s = R := ⟨_, rfl⟩
  rw [hR]
  unfold maxLen at hl1 hl2
  obtain ⟨hl11, hl1⟩ := hl1
  obtain ⟨hl21, hl2⟩ := hl2
  clear hr1 hr2
  by_cases h0 : s.length = vs.length
  · have HE : Hid (R = if (vs.zip s).all (fun p => p.2.all (insideB p.1)) then (if s.all risesB then 0 else 4) else 3) := by
      rw [← hR]; unfold checkV rangeS; rw [if_pos h0]; rfl
    have g0 : ((s.length : Int) != (vs.length : Int)) = false := by simp [h0]
    have H0 : Hid (s.length = vs.length) := h0
    clear hR h0
    go_enter Tryz.func94, Tryz.ntmps94
    go_wp2_with fail
    obtain ⟨w0, hw0⟩ : ∃ w0 : World, w0 = w.alloc (.cells #[.slice a1 vs.length c1] 22) := ⟨_, rfl⟩
    rw [← hw0]
    have HB0 : Hid (Below w.heap.size w w0) := by rw [hw0]; exact below_alloc _ _
    have HZ0 : Hid (w0.heap.size = w.heap.size + 1) := by show _ = _; show _ = _; rw [hw0]; simp
    have HD : Hid (w0.cell? ⟨w.heap.size, 0, none⟩ = some (.slice a1 vs.length c1)) := by show _ = _; rw [hw0]; simp
    clear hw0
    go_loopw [17] (fun i wr => ∃ k : Nat, k ≤ s.length ∧ i = .int .i64 k ∧ Hid (((vs.zip s).take k).all (fun p => p.2.all (insideB p.1)) = true) ∧ Below w0.heap.size w0 wr) (fun i _ => s.length - (intOf i).toNat)
    case atStart => exact ⟨0, by omega, rfl, rfl, Below.refl _ _⟩
    case round =>
      obtain ⟨k, hk, rfl, hall, hbw⟩ := hrel
      have hlt0 : w.heap.size < w0.heap.size := by rw [HZ0.out]; omega
      have HBW : Hid (Below w.heap.size w wr) := HB0.out.trans (hbw.mono (by omega))
      by_cases hlt : k < s.length
      · obtain ⟨t, ht⟩ : ∃ t, vs[k]? = some t := ⟨vs[k]'(by rw [← H0.out]; exact hlt), by simp⟩
        obtain ⟨r, hrr⟩ : ∃ r, s[k]? = some r := ⟨s[k], by simp [hlt]⟩
        have HG : Hid ((vs.zip s)[k]? = some (t, r)) := by show _ = _; rw [List.getElem?_zip_eq_some]; exact ⟨ht, hrr⟩
        obtain ⟨a2', c2', hva, _, hrc⟩ := HVB.out _ HBW.out
        obtain ⟨b, off, x, hax, hb, hc, hix⟩ := hrc k r hrr
        have ha2 : a2 = some ⟨b, off, none⟩ := by cases hva; exact hax
        subst ha2
        have HIX : Hid (IArg wr x r) := hix
        have HT : Hid (vs[k]? = some t) := ht
        obtain ⟨a3, c3, rfl, _, _⟩ := hix
        have hsz := hbw.size
        clear ht hrr hva hrc hax
        go_wp2_with fail
        have hwk : (wr.alloc (.cells #[.int .i64 (k : Int)] 3)).cell? ⟨wr.heap.size, 0, none⟩ = some (.int .i64 k) := by simp
        have hbx : Below w.heap.size w (wr.alloc (.cells #[.int .i64 (k : Int)] 3)) := HBW.out.trans ((below_alloc _ _).mono HBW.out.size)
        have hbx0 : Below w0.heap.size w0 (wr.alloc (.cells #[.int .i64 (k : Int)] 3)) := hbw.alloc hsz _
        have hsx : (wr.alloc (.cells #[.int .i64 (k : Int)] 3)).heap.size = wr.heap.size + 1 := by simp
        obtain ⟨wx, hwx⟩ : ∃ wx : World, wx = wr.alloc (.cells #[.int .i64 (k : Int)] 3) := ⟨_, rfl⟩
        rw [← hwx] at hwk hbx hbx0 hsx ⊢
        have HIX2 : Hid (IArg wx (.slice a3 r.length c3) r) := by rw [hwx]; exact IArg.below (below_alloc _ _) HIX.out
        clear hwx
        refine (containsf_ints 128 _ (fun z => !insideB t z) r _ _ HIX2.out ⟨enters_beyond, ?_⟩).mono ?_
        · intro z w2 hb2
          have g1 := (hb2.cell (p := ⟨w.heap.size, 0, none⟩) (by simp only; omega)).trans ((hbx0.cell (p := ⟨w.heap.size, 0, none⟩) hlt0).trans HD.out)
          have g2 := (hb2.cell (p := ⟨wr.heap.size, 0, none⟩) (by simp only; omega)).trans hwk
          refine (beyond_any vs _ _ _ k t z w2 (HA.out _ (hbx.trans (hb2.mono (by omega)))) HT.out g1 g2).mono ?_
          rintro e w3 ⟨rfl, rfl⟩
          exact ⟨rfl, Below.refl _ _⟩
        rintro e w2 ⟨rfl, hb2⟩
        rw [any_not]
        have hbt : Below w0.heap.size w0 w2 := hbx0.trans (hb2.mono (by omega))
        cases hq : r.all (insideB t)
        · have HN : Hid (R = 3) := by
            have := all_hit (fun p : MVar × List Int => p.2.all (insideB p.1)) (vs.zip s) k (t, r) HG.out hq
            rw [HE.out, this]; rfl
          clear hq
          go_wp2
          go_ret
          exact ⟨ret_int HN.out.symm, HB0.out.trans (hbt.mono (by omega))⟩
        · have HN : Hid (((vs.zip s).take (k + 1)).all (fun p => p.2.all (insideB p.1)) = true) := all_next _ (vs.zip s) k (t, r) HG.out hall.out hq
          clear hq
          go_wp2
          go_roundw
          case rel => exact ⟨k + 1, by omega, by go_num, HN, hbt⟩
          case measure => simp [intOf]; omega
      · have HV : Hid ((vs.zip s).all (fun p => p.2.all (insideB p.1)) = true) := all_end _ _ k (by rw [List.length_zip, ← H0.out]; omega) hall.out
        have HE2 : Hid (R = if s.all risesB then 0 else 4) := by rw [HE.out, HV.out]; rfl
        have HBO : Hid (Below w.heap.size w wr) := HBW.out
        obtain ⟨wo, rfl⟩ : ∃ wo : World, wo = wr := ⟨_, rfl⟩
        go_wp2
        clear hk hall hbw hlt
        go_loopw [29] (fun i wr => ∃ k : Nat, k ≤ s.length ∧ i = .int .i64 k ∧ Hid ((s.take k).all risesB = true) ∧ Below w.heap.size w wr) (fun i _ => s.length - (intOf i).toNat)
        case atStart => exact ⟨0, by omega, rfl, rfl, HBO.out⟩
        case round =>
          obtain ⟨k, hk, rfl, hall, hbw⟩ := hrel
          by_cases hlt : k < s.length
          · obtain ⟨r, hrr⟩ : ∃ r, s[k]? = some r := ⟨s[k], by simp [hlt]⟩
            obtain ⟨a2', c2', hva, _, hrc⟩ := HVB.out _ hbw
            obtain ⟨b, off, x, hax, hb, hc, hix⟩ := hrc k r hrr
            have ha2 : a2 = some ⟨b, off, none⟩ := by cases hva; exact hax
            subst ha2
            have HIX : Hid (IArg wr x r) := hix
            have HRR : Hid (s[k]? = some r) := hrr
            obtain ⟨a3, c3, rfl, _, _⟩ := hix
            clear hrr hva hrc hax
            cases hq : risesB r
            · have HN : Hid (R = 4) := by rw [HE2.out, all_hit risesB s k r HRR.out hq]; rfl
              go_wp2_with fail
              refine (rises_any r _ _ HIX.out).mono ?_
              rintro e w2 ⟨rfl, n, hw2⟩
              rw [hq]
              have hb2 := hbw.trans ((draws_below hw2).mono hbw.size)
              clear hq hw2
              go_wp2
              go_ret
              exact ⟨ret_int HN.out.symm, hb2⟩
            · have HN : Hid ((s.take (k + 1)).all risesB = true) := all_next _ s k r HRR.out hall.out hq
              go_wp2_with fail
              refine (rises_any r _ _ HIX.out).mono ?_
              rintro e w2 ⟨rfl, n, hw2⟩
              rw [hq]
              have hb2 := hbw.trans ((draws_below hw2).mono hbw.size)
              clear hq hw2
              go_wp2
              go_roundw
              case rel => exact ⟨k + 1, by omega, by go_num, HN, hb2⟩
              case measure => simp [intOf]; omega
          · have HN : Hid (R = 0) := by rw [HE2.out, all_end _ s k hlt hall.out]; rfl
            go_wp2
            go_ret
            exact ⟨ret_int HN.out.symm, hbw⟩
  · have HE : Hid (R = 1) := by rw [← hR]; unfold checkV; rw [if_neg h0]; rfl
    have g0 : ((s.length : Int) != (vs.length : Int)) = true := by simp; omega
    clear hR h0
    go_enter Tryz.func94, Tryz.ntmps94
    go_wp2
    go_ret
    exact ⟨ret_int HE.out.symm, below_alloc _ _⟩

/-- Stores, one after the other, as a variadic call has them. -/
def GArg (w : World) (v : Value) (l : List Sto) : Prop :=
  ∃ a c, v = .slice a l.length c ∧ (l.length ≤ c ∧ c ≤ maxLen) ∧ ∀ (i : Nat) (r : Sto), l[i]? = some r → ∃ b off x, a = some ⟨b, off, none⟩ ∧ b < w.heap.size ∧ w.cell? ⟨b, off + i, none⟩ = some x ∧ RArg w x r
theorem GArg.below {w w' : World} {v : Value} {l : List Sto} (hb : Below w.heap.size w w') (h : GArg w v l) : GArg w' v l := by
  obtain ⟨a, c, hv, hm, hr⟩ := h
  refine ⟨a, c, hv, hm, fun i z hz => ?_⟩
  obtain ⟨b, off, x, ha, hlt, hc, hx⟩ := hr i z hz
  exact ⟨b, off, x, ha, Nat.lt_of_lt_of_le hlt hb.size, (hb.cell (p := ⟨b, off + i, none⟩) hlt).trans hc, RArg.below hb hx⟩

set_option maxHeartbeats 1600000 in
set_option maxRecDepth 100000 in
theorem check_any2 (m : Mod) (l : List Sto) (vs cs v : Value) (w : World) (hm : MArg w vs cs m) (hv : GArg w v l) :
    Calls Tryz.prog 48 #[modV vs cs m, v] w fun e w' => e = .returned (.int .i64 (checkL m l)) ∧ Below w.heap.size w w' := by
  have HMA : Hid (∀ w' : World, Below w.heap.size w w' → MArg w' vs cs m) := fun w' h => MArg.below h hm
  have HGA : Hid (∀ w' : World, Below w.heap.size w w' → GArg w' v l) := fun w' h => GArg.below h hv
  obtain ⟨⟨a1, c1, rfl, _, _⟩, ⟨a2, c2, rfl, _, _⟩⟩ := hm
  obtain ⟨a3, c3, rfl, hl3, _⟩ := hv
  unfold maxLen at hl3
  obtain ⟨hl31, hl3⟩ := hl3
  obtain ⟨R, hR⟩ : ∃ R, checkL m l = R := ⟨_, rfl⟩
  rw [hR]
  obtain ⟨er, her⟩ : ∃ er, checkM m = er := ⟨_, rfl⟩
  have HER : Hid (checkM m = er) := her
  have HE : Hid (R = if er = 0 then firstE (l.map (checkV m.vars)) else er) := by rw [← hR, ← her]; rfl
  clear hR her
  unfold modV
  go_enter Tryz.func48, Tryz.ntmps48
  go_wp2_with fail
  refine (check_model m _ _ _ (HMA.out _ (below_alloc _ _))).mono ?_
  rintro e w1 ⟨rfl, hb1⟩
  rw [HER.out]
  have d0 : w1.cell? ⟨w.heap.size, 0, none⟩ = some (.slice a1 m.vars.length c1) := (hb1.cell (by simp)).trans (by simp)
  have HB1 : Hid (Below w.heap.size w w1) := (below_alloc _ _).trans (hb1.mono (by simp))
  have hs1 : w.heap.size + 1 ≤ w1.heap.size := by simpa using hb1.size
  clear hb1
  by_cases he : er = 0
  · subst he
    have HE2 : Hid (R = firstE (l.map (checkV m.vars))) := by rw [HE.out, if_pos rfl]; rfl
    go_wp2_with fail
    go_loopw [16] (fun i wr => ∃ k : Nat, k ≤ l.length ∧ i = .int .i64 k ∧ Hid (firstE ((l.map (checkV m.vars)).take k) = 0) ∧ Below w1.heap.size w1 wr) (fun i _ => l.length - (intOf i).toNat)
    case atStart => exact ⟨0, by omega, rfl, rfl, Below.refl _ _⟩
    case round =>
      obtain ⟨k, hk, rfl, hno, hbw⟩ := hrel
      have HBW : Hid (Below w.heap.size w wr) := HB1.out.trans (hbw.mono (by omega))
      have e0 := (hbw.cell (p := ⟨w.heap.size, 0, none⟩) (by simp only; omega)).trans d0
      by_cases hlt : k < l.length
      · obtain ⟨s, hs⟩ : ∃ s, l[k]? = some s := ⟨l[k], by simp [hlt]⟩
        have HG : Hid ((l.map (checkV m.vars))[k]? = some (checkV m.vars s)) := by show _ = _; rw [List.getElem?_map, hs]; rfl
        obtain ⟨a2', c2', hva, _, hrc⟩ := HGA.out _ HBW.out
        obtain ⟨b, off, x, hax, hb, hc, hix⟩ := hrc k s hs
        have ha2 : a3 = some ⟨b, off, none⟩ := by cases hva; exact hax
        subst ha2
        have HIX : Hid (RArg wr x s) := hix
        obtain ⟨a4, c4, rfl, _, _⟩ := hix
        clear hs hva hrc hax
        go_wp2_with fail
        refine (values_any m.vars s _ _ _ (HMA.out _ HBW.out).1 HIX.out).mono ?_
        rintro e w2 ⟨rfl, hb2⟩
        obtain ⟨eq, heq⟩ : ∃ eq, checkV m.vars s = eq := ⟨_, rfl⟩
        have HG2 : Hid ((l.map (checkV m.vars))[k]? = some eq) := by rw [← heq]; exact HG.out
        rw [heq]
        clear heq
        have hbt : Below w1.heap.size w1 w2 := hbw.trans (hb2.mono hbw.size)
        by_cases hz : eq = 0
        · subst hz
          have HN : Hid (firstE ((l.map (checkV m.vars)).take (k + 1)) = 0) := firstE_step _ k hno.out HG2.out
          clear hb2
          go_wp2
          go_roundw
          case rel => exact ⟨k + 1, by omega, by go_num, HN, hbt⟩
          case measure => simp [intOf]; omega
        · have HN : Hid (R = eq) := by rw [HE2.out]; exact firstE_hit _ k eq hno.out HG2.out hz
          have he2 : (eq != 0) = true := by simpa using hz
          clear hb2 hz
          go_wp2
          go_ret
          exact ⟨ret_int HN.out.symm, HB1.out.trans (hbt.mono (by omega))⟩
      · have HN : Hid (R = 0) := by
          have := hno.out; rw [List.take_of_length_le (by simp; omega)] at this; rw [HE2.out]; exact this
        go_wp2
        go_ret
        exact ⟨ret_int HN.out.symm, HBW.out⟩
  · have HN : Hid (R = er) := by rw [HE.out, if_neg he]; rfl
    have he2 : (er != 0) = true := by simpa using he
    clear he
    go_wp2
    go_ret
    exact ⟨ret_int HN.out.symm, HB1.out⟩
end Go.Proofs.YtggkbhafbhhhhadGreat
/-
  WALKS: package store: Check, Within, Failed.
-/
namespace Go.Proofs.YtggkbhafbhhhhadGreat
open Go.RowKit

/-- One store, or two, in a row of their own. -/
theorem garg_one {w : World} {v : Value} {s : Sto} {B : Nat} (hB : B = w.heap.size) (h : RArg w v s) : GArg (w.alloc (.cells #[v] 27)) (.slice (some ⟨B, 0, none⟩) 1 1) [s] := by
  subst hB
  refine ⟨_, 1, rfl, ⟨by simp, by unfold maxLen; omega⟩, fun i r hr => ?_⟩
  match i, hr with
  | 0, hr => cases hr; exact ⟨_, _, v, rfl, by simp, by simp, RArg.below (below_alloc _ _) h⟩
theorem garg_two {w : World} {v u : Value} {s t : Sto} {B : Nat} (hB : B = w.heap.size) (h : RArg w v s) (k : RArg w u t) : GArg (w.alloc (.cells #[v, u] 27)) (.slice (some ⟨B, 0, none⟩) 2 2) [s, t] := by
  subst hB
  refine ⟨_, 2, rfl, ⟨by simp, by unfold maxLen; omega⟩, fun i r hr => ?_⟩
  match i, hr with
  | 0, hr => cases hr; exact ⟨_, _, v, rfl, by simp, by simp, RArg.below (below_alloc _ _) h⟩
  | 1, hr => cases hr; exact ⟨_, _, u, rfl, by simp, by simp, RArg.below (below_alloc _ _) k⟩

set_option maxHeartbeats 800000 in
set_option maxRecDepth 100000 in
theorem scheck_any (m : Mod) (s : Sto) (vs cs v : Value) (w : World) (hm : MArg w vs cs m) (hv : RArg w v s) :
    Calls Tryz.prog 23 #[modV vs cs m, v] w fun e w' => e = .returned (.int .i64 (checkL m [s])) ∧ Below w.heap.size w w' := by
  have HMA : Hid (∀ w' : World, Below w.heap.size w w' → MArg w' vs cs m) := fun w' h => MArg.below h hm
  have HVA : Hid (∀ w' : World, Below w.heap.size w w' → RArg w' v s) := fun w' h => RArg.below h hv
  obtain ⟨⟨a1, c1, rfl, _, _⟩, ⟨a2, c2, rfl, _, _⟩⟩ := hm
  obtain ⟨a3, c3, rfl, _, _⟩ := hv
  obtain ⟨R, HR⟩ : ∃ R, Hid (checkL m [s] = R) := ⟨_, rfl⟩
  rw [HR.out]
  unfold modV
  go_enter Tryz.func23, Tryz.ntmps23
  go_wp2_with fail
  refine (check_any2 m [s] (.slice a1 m.vars.length c1) (.slice a2 m.cons.length c2) _ _ ?_ ?_).mono ?_
  · exact HMA.out _ ((below_alloc _ _).alloc (by simp) _)
  · exact garg_one (by simp) (HVA.out _ (below_alloc _ _))
  rintro e w1 ⟨rfl, hb1⟩
  rw [HR.out]
  have hb : Below w.heap.size w w1 := (((below_alloc _ _).alloc (by simp) _)).trans (hb1.mono (by simp; omega))
  clear hb1
  go_wp2
  go_ret
  exact ⟨rfl, hb⟩

set_option maxHeartbeats 400000 in
set_option maxRecDepth 100000 in
theorem lacks_any (t : Sto) (v : Value) (b1 b2 k : Nat) (r : List Int) (z : Int) (w : World) (hv : RArg w v t) (ht : t[k]? = some r) (h1 : w.cell? ⟨b1, 0, none⟩ = some v) (h2 : w.cell? ⟨b2, 0, none⟩ = some (.int .i64 k)) :
    Calls Tryz.prog 49 #[.int .i64 z, .pointer (some ⟨b1, 0, none⟩), .pointer (some ⟨b2, 0, none⟩)] w fun e w' => e = .returned (.bool (!hasB r z)) ∧ w' = w := by
  obtain ⟨a', c, rfl, hm, hr⟩ := hv
  have hkl : k < t.length := (List.getElem?_eq_some_iff.1 ht).1
  obtain ⟨b, off, x, rfl, hlt, hc, hx⟩ := hr k r ht
  have HX : Hid (IArg w x r) := hx
  obtain ⟨a3, c3, rfl, _, _⟩ := hx
  unfold maxLen at hm
  obtain ⟨hm1, hm⟩ := hm
  clear hr ht
  go_enter Tryz.func49, Tryz.ntmps49
  go_wp2_with fail
  refine (contains_ints r _ z _ HX.out).mono ?_
  rintro e w ⟨rfl, rfl⟩
  go_wp2
  go_ret
  exact ⟨rfl, rfl⟩
theorem enters_lacks (args : Array Value) (w' : World) : Sem.run Tryz.prog (callFunc 49 args) w' = .ok (.enter 49 args) w' := by
  simp [callFunc, go_sem, Tryz.func49, Tryz.f49]

def withinA (m : Mod) (s t : Sto) : Bool × Int := if checkL m [s, t] = 0 then (withinS s t, 0) else (false, checkL m [s, t])
theorem checkL_two (m : Mod) (s t : Sto) : checkL m [s, t] = 0 ↔ checkM m = 0 ∧ checkV m.vars s = 0 ∧ checkV m.vars t = 0 := by
  unfold checkL
  by_cases h : checkM m = 0
  · rw [if_pos h]
    simp only [List.map, firstE]
    by_cases h1 : checkV m.vars s = 0
    · rw [if_pos h1]
      by_cases h2 : checkV m.vars t = 0
      · simp [h, h1, h2]
      · simp [h2]
    · simp [h1]
  · rw [if_neg h]; simp [h]

set_option maxHeartbeats 1600000 in
set_option maxRecDepth 100000 in
theorem swithin_any (m : Mod) (s t : Sto) (vs cs v u : Value) (w : World) (hm : MArg w vs cs m) (hv : RArg w v s) (hu : RArg w u t) :
    Calls Tryz.prog 20 #[modV vs cs m, v, u] w fun e w' => e = .returned (.tuple #[.bool (withinA m s t).1, .int .i64 (withinA m s t).2]) ∧ Below w.heap.size w w' := by
  have HMA : Hid (∀ w' : World, Below w.heap.size w w' → MArg w' vs cs m) := fun w' h => MArg.below h hm
  have HVA : Hid (∀ w' : World, Below w.heap.size w w' → RArg w' v s) := fun w' h => RArg.below h hv
  have HUA : Hid (∀ w' : World, Below w.heap.size w w' → RArg w' u t) := fun w' h => RArg.below h hu
  obtain ⟨⟨a1, c1, rfl, _, _⟩, ⟨a2, c2, rfl, _, _⟩⟩ := hm
  obtain ⟨a3, c3, rfl, hl3, _⟩ := hv
  obtain ⟨a4, c4, rfl, hl4, _⟩ := hu
  unfold maxLen at hl3 hl4
  obtain ⟨hl31, hl3⟩ := hl3
  obtain ⟨hl41, hl4⟩ := hl4
  obtain ⟨R, hR⟩ : ∃ R, withinA m s t = R := ⟨_, rfl⟩
  rw [hR]
  obtain ⟨er, her⟩ : ∃ er, checkL m [s, t] = er := ⟨_, rfl⟩
  have HER : Hid (checkL m [s, t] = er) := her
  have HE : Hid (R = if er = 0 then (withinS s t, 0) else (false, er)) := by rw [← hR, ← her]; rfl
  have HL : Hid (er = 0 → s.length = t.length) := by
    intro h0
    rw [← her, checkL_two] at h0
    have h1 := ((checkV_ok _ _).1 h0.2.1).1
    have h2 := ((checkV_ok _ _).1 h0.2.2).1
    omega
  clear hR her
  unfold modV
  go_enter Tryz.func20, Tryz.ntmps20
  go_wp2_with fail
  refine (check_any2 m [s, t] (.slice a1 m.vars.length c1) (.slice a2 m.cons.length c2) _ _ ?_ ?_).mono ?_
  · exact HMA.out _ (((below_alloc _ _).alloc (by simp) _).alloc (by simp; omega) _)
  · exact garg_two (by simp) (HVA.out _ ((below_alloc _ _).alloc (by simp) _)) (HUA.out _ ((below_alloc _ _).alloc (by simp) _))
  rintro e w1 ⟨rfl, hb1⟩
  rw [HER.out]
  have d1 : w1.cell? ⟨w.heap.size + 1, 0, none⟩ = some (.slice a4 t.length c4) := by
    refine (hb1.cell (by simp)).trans ((World.cell?_alloc_past _ _ _ (by simp)).trans ?_)
    exact World.cell?_alloc_at _ _ _ 0 (by simp)
  have HB1 : Hid (Below w.heap.size w w1) := (((below_alloc _ _).alloc (by simp) _).alloc (by simp; omega) _).trans (hb1.mono (by simp; omega))
  have hs1 : w.heap.size + 3 ≤ w1.heap.size := by simpa using hb1.size
  clear hb1
  by_cases he : er = 0
  · subst he
    have HL2 : Hid (s.length = t.length) := HL.out rfl
    have HE2 : Hid (R = ((s.zip t).all (fun p => withinR p.1 p.2), 0)) := by rw [HE.out, if_pos rfl]; rfl
    go_wp2_with fail
    go_loopw [22] (fun i wr => ∃ k : Nat, k ≤ s.length ∧ i = .int .i64 k ∧ Hid (((s.zip t).take k).all (fun p => withinR p.1 p.2) = true) ∧ Below w1.heap.size w1 wr) (fun i _ => s.length - (intOf i).toNat)
    case atStart => exact ⟨0, by omega, rfl, rfl, Below.refl _ _⟩
    case round =>
      obtain ⟨k, hk, rfl, hall, hbw⟩ := hrel
      have HBW : Hid (Below w.heap.size w wr) := HB1.out.trans (hbw.mono (by omega))
      have hsz := hbw.size
      by_cases hlt : k < s.length
      · obtain ⟨r, hr⟩ : ∃ r, s[k]? = some r := ⟨s[k], by simp [hlt]⟩
        obtain ⟨q, hq0⟩ : ∃ q, t[k]? = some q := ⟨t[k]'(by rw [← HL2.out]; exact hlt), by simp⟩
        have HG : Hid ((s.zip t)[k]? = some (r, q)) := by show _ = _; rw [List.getElem?_zip_eq_some]; exact ⟨hr, hq0⟩
        have HQ : Hid (t[k]? = some q) := hq0
        obtain ⟨a2', c2', hva, _, hrc⟩ := HVA.out _ HBW.out
        obtain ⟨b, off, x, hax, hb, hc, hix⟩ := hrc k r hr
        have ha2 : a3 = some ⟨b, off, none⟩ := by cases hva; exact hax
        subst ha2
        have HIX : Hid (IArg wr x r) := hix
        obtain ⟨a5, c5, rfl, _, _⟩ := hix
        clear hr hq0 hva hrc hax
        go_wp2_with fail
        have hwk : (wr.alloc (.cells #[.int .i64 (k : Int)] 3)).cell? ⟨wr.heap.size, 0, none⟩ = some (.int .i64 k) := by simp
        have hbx : Below w.heap.size w (wr.alloc (.cells #[.int .i64 (k : Int)] 3)) := HBW.out.trans ((below_alloc _ _).mono HBW.out.size)
        have hbx0 : Below w1.heap.size w1 (wr.alloc (.cells #[.int .i64 (k : Int)] 3)) := hbw.alloc hsz _
        have hsx : (wr.alloc (.cells #[.int .i64 (k : Int)] 3)).heap.size = wr.heap.size + 1 := by simp
        obtain ⟨wx, hwx⟩ : ∃ wx : World, wx = wr.alloc (.cells #[.int .i64 (k : Int)] 3) := ⟨_, rfl⟩
        rw [← hwx] at hwk hbx hbx0 hsx ⊢
        have HIX2 : Hid (IArg wx (.slice a5 r.length c5) r) := by rw [hwx]; exact IArg.below (below_alloc _ _) HIX.out
        clear hwx
        refine (containsf_ints 49 _ (fun z => !hasB q z) r _ _ HIX2.out ⟨enters_lacks, ?_⟩).mono ?_
        · intro z w2 hb2
          have g1 := (hb2.cell (p := ⟨w.heap.size + 1, 0, none⟩) (by simp only; omega)).trans ((hbx0.cell (p := ⟨w.heap.size + 1, 0, none⟩) (by simp only; omega)).trans d1)
          have g2 := (hb2.cell (p := ⟨wr.heap.size, 0, none⟩) (by simp only; omega)).trans hwk
          refine (lacks_any t _ _ _ k q z w2 (HUA.out _ (hbx.trans (hb2.mono (by omega)))) HQ.out g1 g2).mono ?_
          rintro e w3 ⟨rfl, rfl⟩
          exact ⟨rfl, Below.refl _ _⟩
        rintro e w2 ⟨rfl, hb2⟩
        rw [any_not]
        have hbt : Below w1.heap.size w1 w2 := hbx0.trans (hb2.mono (by omega))
        cases hq : r.all (hasB q)
        · have HN : Hid (R = (false, 0)) := by
            have := all_hit (fun p : List Int × List Int => withinR p.1 p.2) (s.zip t) k (r, q) HG.out hq
            rw [HE2.out, this]; rfl
          clear hq
          go_wp2
          go_ret2
          exact ⟨by rw [HN.out]; rfl, HB1.out.trans (hbt.mono (by omega))⟩
        · have HN : Hid (((s.zip t).take (k + 1)).all (fun p => withinR p.1 p.2) = true) := all_next _ (s.zip t) k (r, q) HG.out hall.out hq
          clear hq
          go_wp2
          go_roundw
          case rel => exact ⟨k + 1, by omega, by go_num, HN, hbt⟩
          case measure => simp [intOf]; omega
      · have HN : Hid (R = (true, 0)) := by rw [HE2.out, all_end _ _ k (by rw [List.length_zip, ← HL2.out]; omega) hall.out]; rfl
        go_wp2
        go_ret2
        exact ⟨by rw [HN.out]; rfl, HBW.out⟩
  · have HN : Hid (R = (false, er)) := by rw [HE.out, if_neg he]; rfl
    have he2 : (er != 0) = true := by simpa using he
    clear he
    go_wp2
    go_ret2
    exact ⟨by rw [HN.out]; rfl, HB1.out⟩

set_option maxHeartbeats 400000 in
theorem empty_any (r : List Int) (v : Value) (w : World) (hv : IArg w v r) :
    Calls Tryz.prog 99 #[v] w fun e w' => e = .returned (.bool (decide (r.length = 0))) ∧ w' = w := by
  obtain ⟨a, c, rfl, _, _⟩ := hv
  by_cases h : r.length = 0
  · have g : ((r.length : Int) == 0) = true := by simp [h]
    have h1 : decide (r.length = 0) = true := decide_eq_true h
    rw [h1]; clear h h1
    go_enter Tryz.func99, Tryz.ntmps99
    go_wp2
    go_ret
    exact ⟨rfl, rfl⟩
  · have g : ((r.length : Int) == 0) = false := by simpa using h
    have h1 : decide (r.length = 0) = false := decide_eq_false h
    rw [h1]; clear h h1
    go_enter Tryz.func99, Tryz.ntmps99
    go_wp2
    go_ret
    exact ⟨rfl, rfl⟩

set_option maxHeartbeats 800000 in
set_option maxRecDepth 100000 in
theorem indexf_empty (s : Sto) (v : Value) (w : World) (hv : RArg w v s) :
    Calls Tryz.prog 130 #[v, .func (.func 99) #[] #[]] w fun e w' => (∃ z : Int, e = .returned (.int .i64 z) ∧ decide (0 ≤ z) = failedS s) ∧ w' = w := by
  obtain ⟨a, c, rfl, hm, hr⟩ := hv
  have HV : Hid (∀ (i : Nat) (r : List Int), s[i]? = some r → ∃ b off x, a = some ⟨b, off, none⟩ ∧ b < w.heap.size ∧ w.cell? ⟨b, off + i, none⟩ = some x ∧ IArg w x r) := hr
  obtain ⟨R, hR⟩ : ∃ R, failedS s = R := ⟨_, rfl⟩
  rw [hR]
  have HR : Hid ((s.any fun r => decide (r.length = 0)) = R) := hR
  unfold maxLen at hm
  obtain ⟨hm1, hm⟩ := hm
  clear hr hR
  go_enter Tryz.func130, Tryz.ntmps130
  go_wp2_with fail
  go_loop [8] (fun i => ∃ m : Nat, m ≤ s.length ∧ i = .int .i64 m ∧ Hid ((s.take m).any (fun r => decide (r.length = 0)) = false)) (fun i => s.length - (intOf i).toNat)
  case atStart => exact ⟨0, by omega, rfl, rfl⟩
  case round =>
    obtain ⟨m, hml, rfl, hall⟩ := hrel
    by_cases hlt : m < s.length
    · obtain ⟨r, hz⟩ : ∃ r, s[m]? = some r := ⟨s[m], by simp [hlt]⟩
      obtain ⟨b, off, x, ha, hb, hc, hx⟩ := HV.out m r hz
      have HX : Hid (IArg w x r) := hx
      obtain ⟨a5, c5, rfl, _, _⟩ := hx
      have HZ : Hid (s[m]? = some r) := hz
      subst ha
      clear hz
      cases hq : decide (r.length = 0)
      · have HN : Hid ((s.take (m + 1)).any (fun r => decide (r.length = 0)) = false) := any_next (fun r : List Int => decide (r.length = 0)) s m r HZ.out hall.out hq
        have HQ : Hid (decide (r.length = 0) = false) := hq
        clear hq
        go_wp2_with fail
        refine (empty_any r _ _ HX.out).mono ?_
        rintro e w ⟨rfl, rfl⟩
        rw [HQ.out]
        go_wp2
        go_round
        case rel => exact ⟨m + 1, by omega, by go_num, HN⟩
        case measure => simp [intOf]; omega
      · have HN : Hid (R = true) := by rw [← HR.out]; exact any_hit (fun r : List Int => decide (r.length = 0)) s m r HZ.out hq
        have HQ : Hid (decide (r.length = 0) = true) := hq
        clear hq
        go_wp2_with fail
        refine (empty_any r _ _ HX.out).mono ?_
        rintro e w ⟨rfl, rfl⟩
        rw [HQ.out]
        go_wp2
        go_ret
        exact ⟨⟨_, rfl, by rw [HN.out]; simp⟩, rfl⟩
    · have HN : Hid (R = false) := by rw [← HR.out]; exact any_end _ s m hlt hall.out
      go_wp2
      go_ret
      exact ⟨⟨_, rfl, by rw [HN.out]; rfl⟩, rfl⟩

set_option maxHeartbeats 400000 in
theorem containsf_empty (s : Sto) (v : Value) (w : World) (hv : RArg w v s) :
    Calls Tryz.prog 98 #[v, .func (.func 99) #[] #[]] w fun e w' => e = .returned (.bool (failedS s)) ∧ w' = w := by
  go_enter Tryz.func98, Tryz.ntmps98
  go_wp2_with fail
  refine (indexf_empty s v _ hv).mono ?_
  rintro e w ⟨⟨z, rfl, hz⟩, rfl⟩
  have HZ : Hid (decide (0 ≤ z) = failedS s) := hz
  clear hz
  go_wp2
  go_ret
  exact ⟨ret_bool HZ.out, rfl⟩

set_option maxHeartbeats 400000 in
theorem sift_failed (s : Sto) (v : Value) (w : World) (hv : RArg w v s) :
    Calls Tryz.prog 56 #[v] w fun e w' => e = .returned (.bool (failedS s)) ∧ w' = w := by
  go_enter Tryz.func56, Tryz.ntmps56
  go_wp2_with fail
  refine (containsf_empty s v _ hv).mono ?_
  rintro e w ⟨rfl, rfl⟩
  go_wp2
  go_ret
  exact ⟨rfl, rfl⟩

def failedA (m : Mod) (s : Sto) : Bool × Int := if checkL m [s] = 0 then (failedS s, 0) else (false, checkL m [s])
set_option maxHeartbeats 800000 in
set_option maxRecDepth 100000 in
theorem sfailed_any (m : Mod) (s : Sto) (vs cs v : Value) (w : World) (hm : MArg w vs cs m) (hv : RArg w v s) :
    Calls Tryz.prog 47 #[modV vs cs m, v] w fun e w' => e = .returned (.tuple #[.bool (failedA m s).1, .int .i64 (failedA m s).2]) ∧ Below w.heap.size w w' := by
  have HMA : Hid (∀ w' : World, Below w.heap.size w w' → MArg w' vs cs m) := fun w' h => MArg.below h hm
  have HVA : Hid (∀ w' : World, Below w.heap.size w w' → RArg w' v s) := fun w' h => RArg.below h hv
  obtain ⟨⟨a1, c1, rfl, _, _⟩, ⟨a2, c2, rfl, _, _⟩⟩ := hm
  obtain ⟨a3, c3, rfl, _, _⟩ := hv
  obtain ⟨R, hR⟩ : ∃ R, failedA m s = R := ⟨_, rfl⟩
  rw [hR]
  obtain ⟨er, her⟩ : ∃ er, checkL m [s] = er := ⟨_, rfl⟩
  have HER : Hid (checkL m [s] = er) := her
  have HE : Hid (R = if er = 0 then (failedS s, 0) else (false, er)) := by rw [← hR, ← her]; rfl
  clear hR her
  unfold modV
  go_enter Tryz.func47, Tryz.ntmps47
  go_wp2_with fail
  refine (check_any2 m [s] (.slice a1 m.vars.length c1) (.slice a2 m.cons.length c2) _ _ ?_ ?_).mono ?_
  · exact HMA.out _ ((below_alloc _ _).alloc (by simp) _)
  · exact garg_one (by simp) (HVA.out _ (below_alloc _ _))
  rintro e w1 ⟨rfl, hb1⟩
  rw [HER.out]
  have HB1 : Hid (Below w.heap.size w w1) := (((below_alloc _ _).alloc (by simp) _)).trans (hb1.mono (by simp; omega))
  clear hb1
  by_cases he : er = 0
  · subst he
    have HE2 : Hid (R = (failedS s, 0)) := by rw [HE.out, if_pos rfl]; rfl
    go_wp2_with fail
    refine (sift_failed s _ _ (HVA.out _ HB1.out)).mono ?_
    rintro e w1 ⟨rfl, rfl⟩
    go_wp2
    go_ret2
    exact ⟨by rw [HE2.out]; rfl, HB1.out⟩
  · have HN : Hid (R = (false, er)) := by rw [HE.out, if_neg he]; rfl
    have he2 : (er != 0) = true := by simpa using he
    clear he
    go_wp2
    go_ret2
    exact ⟨by rw [HN.out]; rfl, HB1.out⟩
end Go.Proofs.YtggkbhafbhhhhadGreat
/-
  PLAIN: how long the rows of a right store are. MEMORY: a store that is being built, row by row.
-/
namespace Go.Proofs.YtggkbhafbhhhhadGreat
open Go.RowKit

theorem rises_len (l : List Int) : ∀ (lo hi : Int), l.Pairwise (· < ·) → (∀ n ∈ l, lo ≤ n ∧ n ≤ hi) → (l.length : Int) ≤ max 0 (hi - lo + 1) := by
  induction l with
  | nil => intro lo hi _ _; simp; omega
  | cons a r ih =>
    intro lo hi hp hb
    have h1 := ih (a + 1) hi (List.pairwise_cons.1 hp).2 (fun n hn => by
      have := (List.pairwise_cons.1 hp).1 n hn
      have := hb n (List.mem_cons_of_mem _ hn)
      omega)
    have h2 := hb a (List.mem_cons_self ..)
    rw [List.length_cons]
    push_cast
    omega
theorem row_short (m : Mod) (s : Sto) (hm : checkM m = 0) (hs : checkV m.vars s = 0) (i : Nat) (r : List Int) (hr : s[i]? = some r) : r.length ≤ 6 := by
  obtain ⟨h1, h2, h3⟩ := (checkV_ok _ _).1 hs
  have hi : i < s.length := (List.getElem?_eq_some_iff.1 hr).1
  obtain ⟨v, hv⟩ : ∃ v, m.vars[i]? = some v := ⟨m.vars[i]'(by omega), by simp⟩
  have hvo := var_ok m hm i v hv
  have hin := (all_zip _ _ _).1 h2 i v r hv hr
  have hri := List.all_eq_true.1 h3 r (List.mem_of_getElem? hr)
  have := rises_len r v.lo v.hi ((rises_pair r).1 hri) (fun n hn => by
    have := List.all_eq_true.1 hin n hn
    simpa [insideB] using this)
  omega

/-- Numbers of one's own, as a list. -/
theorem own_ilist {w : World} {base : Nat} {v : Value} {r : List Int} (h : w.ownsRow base 3 1 v r.length (r.map (Value.int .i64))) : IArg w v r := by
  rcases h.2 with ⟨rfl, hn⟩ | ⟨g, cap, cur, rfl, hg, hh, hc1, hc2, _, _⟩
  · have : r = [] := List.eq_nil_of_length_eq_zero hn
    subst this
    exact ⟨none, 0, rfl, ⟨Nat.le_refl _, Nat.zero_le _⟩, fun i z hz => by simp at hz⟩
  · refine ⟨_, cap, rfl, ⟨hc1, hc2⟩, fun i z hz => ⟨g, 0, rfl, (Array.getElem?_eq_some_iff.1 hh).1, ?_⟩⟩
    have hi : i < r.length := (List.getElem?_eq_some_iff.1 hz).1
    rw [Nat.zero_add, h.cellAt i (by omega), List.getElem?_map, hz]; rfl

theorem own_mono {w : World} {base base' : Nat} {e : TypeId} {size : Nat} {v : Value} {n : Nat} {xs : List Value} (h : w.ownsRow base e size v n xs) (hb : base' ≤ base) : w.ownsRow base' e size v n xs := by
  refine ⟨h.1, ?_⟩
  rcases h.2 with hn | ⟨g, cap, cur, hv, hg, r⟩
  · exact .inl hn
  · exact .inr ⟨g, cap, cur, hv, Nat.le_trans hb hg, r⟩
/-- What is owned stays so where its block does. -/
theorem own_at {w w' : World} {base : Nat} {e : TypeId} {size : Nat} {v : Value} {n : Nat} {xs : List Value} (h : w.ownsRow base e size v n xs) (hk : ∀ g, v.ownBlock = some g → w'.heap[g]? = w.heap[g]?) : w'.ownsRow base e size v n xs := by
  refine ⟨h.1, ?_⟩
  rcases h.2 with hn | ⟨g, cap, cur, hv, hg, hh, r⟩
  · exact .inl hn
  · exact .inr ⟨g, cap, cur, hv, hg, by rw [hk g (by rw [hv]; rfl)]; exact hh, r⟩

/-- A store that is being built: its first k rows are made. -/
def SRows (w : World) (base B n : Nat) (cells : List Value) (M : Sto) (k : Nat) : Prop :=
  w.ownsRow base 39 1 (.slice (some ⟨B, 0, none⟩) n n) n cells ∧
  (∀ i r, i < k → M[i]? = some r → ∃ x, cells[i]? = some x ∧ w.ownsRow (B + 1) 3 1 x r.length (r.map (Value.int .i64))) ∧
  (∀ i, k ≤ i → i < n → cells[i]? = some (.slice none 0 0))
/-- .. and of row k so much as acc is made, above block K. -/
def SRowsIn (w : World) (base B n : Nat) (cells : List Value) (M : Sto) (k K : Nat) (acc : List Int) : Prop :=
  w.ownsRow base 39 1 (.slice (some ⟨B, 0, none⟩) n n) n cells ∧
  (∀ i r, i < k → M[i]? = some r → ∃ x, cells[i]? = some x ∧ w.ownsRow (B + 1) 3 1 x r.length (r.map (Value.int .i64)) ∧ ∀ g, x.ownBlock = some g → g < K) ∧
  (∃ x, cells[k]? = some x ∧ w.ownsRow K 3 1 x acc.length (acc.map (Value.int .i64))) ∧
  (∀ i, k < i → i < n → cells[i]? = some (.slice none 0 0)) ∧ B < K ∧ K ≤ w.heap.size ∧ k < n

theorem SRows.into {w : World} {base B n : Nat} {cells : List Value} {M : Sto} {k : Nat} (h : SRows w base B n cells M k) (hk : k < n) : SRowsIn w base B n cells M k w.heap.size [] := by
  obtain ⟨h1, h2, h3⟩ := h
  refine ⟨h1, fun i r hi hr => ?_, ⟨_, h3 k (Nat.le_refl _) hk, World.ownsRow_nil _ _ _ _⟩, fun i hi hn => h3 i (by omega) hn, (h1.lt B rfl).2, Nat.le_refl _, hk⟩
  obtain ⟨x, hx, ho⟩ := h2 i r hi hr
  exact ⟨x, hx, ho, fun g hg => (ho.lt g hg).2⟩
theorem SRowsIn.done {w : World} {base B n : Nat} {cells : List Value} {M : Sto} {k K : Nat} {acc : List Int} (h : SRowsIn w base B n cells M k K acc) (hM : M[k]? = some acc) : SRows w base B n cells M (k + 1) := by
  obtain ⟨h1, h2, ⟨x, hx, ho⟩, h4, h5, _, _⟩ := h
  refine ⟨h1, fun i r hi hr => ?_, fun i hi hn => h4 i (by omega) hn⟩
  by_cases hik : i < k
  · obtain ⟨y, hy, hoy, _⟩ := h2 i r hik hr
    exact ⟨y, hy, hoy⟩
  · obtain rfl : i = k := by omega
    rw [hM] at hr; cases hr
    exact ⟨x, hx, own_mono ho (by omega)⟩
theorem SRowsIn.kept {w w' : World} {base B n : Nat} {cells : List Value} {M : Sto} {k K : Nat} {acc : List Int} (h : SRowsIn w base B n cells M k K acc) (hb : Below w.heap.size w w') : SRowsIn w' base B n cells M k K acc := by
  obtain ⟨h1, h2, ⟨x, hx, ho⟩, h4, h5, h6, h7⟩ := h
  refine ⟨own_below h1 hb, fun i r hi hr => ?_, ⟨x, hx, own_below ho hb⟩, h4, h5, Nat.le_trans h6 hb.size, h7⟩
  obtain ⟨y, hy, hoy, hg⟩ := h2 i r hi hr
  exact ⟨y, hy, own_below hoy hb, hg⟩
theorem SRows.kept {w w' : World} {base B n : Nat} {cells : List Value} {M : Sto} {k : Nat} (h : SRows w base B n cells M k) (hb : Below w.heap.size w w') : SRows w' base B n cells M k := by
  obtain ⟨h1, h2, h3⟩ := h
  refine ⟨own_below h1 hb, fun i r hi hr => ?_, h3⟩
  obtain ⟨y, hy, hoy⟩ := h2 i r hi hr
  exact ⟨y, hy, own_below hoy hb⟩
/-- One more number: 'w' is the world ahead of append, 'w3' the one behind it. -/
theorem SRowsIn.push {w w3 : World} {base B n : Nat} {cells : List Value} {M : Sto} {k K : Nat} {acc : List Int} {x v3 : Value} {z : Int} (h : SRowsIn w base B n cells M k K acc) (hx : cells[k]? = some x)
    (ho : w3.ownsRow K 3 1 v3 (acc ++ [z]).length ((acc ++ [z]).map (Value.int .i64))) (hg : w.grownBy w3 x.ownBlock) :
    SRowsIn (w3.setCell ⟨B, k, none⟩ v3) base B n (cells.set k v3) M k K (acc ++ [z]) := by
  obtain ⟨h1, h2, ⟨y, hy, hoy⟩, h4, h5, h6, h7⟩ := h
  rw [hx] at hy; cases hy
  have hxK : ∀ g, x.ownBlock = some g → K ≤ g := fun g hg => (hoy.lt g hg).1
  have hB : B < w.heap.size := (h1.lt B rfl).2
  have hne : some B ≠ x.ownBlock := fun h => by have := hxK B h.symm; omega
  have h13 : w3.ownsRow base 39 1 (.slice (some ⟨B, 0, none⟩) n n) n cells := h1.kept hg (Or.inr hne)
  have hlen : cells.length = n := by have := h1.1; omega
  refine ⟨(h13.stored k v3).1, fun i r hi hr => ?_, ⟨v3, by rw [List.getElem?_set_self (by omega)], ?_⟩, fun i hi hn => by rw [List.getElem?_set_ne (by omega)]; exact h4 i hi hn, h5, ?_, h7⟩
  · obtain ⟨y, hy, hoy2, hgy⟩ := h2 i r hi hr
    refine ⟨y, by rw [List.getElem?_set_ne (by omega)]; exact hy, ?_, hgy⟩
    have h23 : w3.ownsRow (B + 1) 3 1 y r.length (r.map (Value.int .i64)) := by
      refine hoy2.kept hg ?_
      cases hyb : y.ownBlock with
      | none => exact Or.inl rfl
      | some g =>
        refine Or.inr fun he => ?_
        have := hxK g he.symm
        have := hgy g hyb
        omega
    refine own_at h23 fun g hg2 => Below.heap_setCell _ _ _ _ ?_
    have := (hoy2.lt g hg2).1
    simp only; omega
  · refine own_at ho fun g hg2 => Below.heap_setCell _ _ _ _ ?_
    have := (ho.lt g hg2).1
    simp only; omega
  · have := hg.size; simp; omega
theorem SRows.rarg {w : World} {base B n : Nat} {cells : List Value} {M : Sto} (h : SRows w base B n cells M n) (hM : M.length = n) : RArg w (.slice (some ⟨B, 0, none⟩) n n) M := by
  obtain ⟨h1, h2, _⟩ := h
  have hB : B < w.heap.size := (h1.lt B rfl).2
  have hmx : n ≤ maxLen := by
    rcases h1.2 with ⟨h', _⟩ | ⟨g, cap, cur, h', _, _, hc1, hc2, _⟩
    · cases h'
    · exact Nat.le_trans hc1 hc2
  refine ⟨_, n, by rw [hM], ⟨by omega, hmx⟩, fun i r hr => ?_⟩
  have hi : i < n := by rw [← hM]; exact (List.getElem?_eq_some_iff.1 hr).1
  obtain ⟨x, hx, ho⟩ := h2 i r hi hr
  exact ⟨B, 0, x, rfl, hB, by rw [Nat.zero_add, h1.cellAt i (by omega)]; exact hx, own_ilist ho⟩
end Go.Proofs.YtggkbhafbhhhhadGreat
