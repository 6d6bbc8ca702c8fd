/-
  PART 3 of what the proof leans on (ModG, ModH, StoPlain, SifPlain, LitPlain, ClaPlain, TruB, FixPlain, ModO, ModQ, Srt, ModS).
-/
import Derived.Test.YtijohkhpigjbkaeGreatDoorPartB
import Derived.ProofKit
import Derived.OpenShut
import Derived.ShutString
import Derived.ChangeOld
import Derived.Below
import Derived.SizedLaws
import Derived.Deep.Slices
import Derived.Deep.Strs
import Derived.Lib.SmallJoins
import Derived.Shelf.Sort.Plain
import Derived.Ground.Names2Prog
import Derived.Shelf.Slices.CompactI
import Derived.Test.YtijohkhpigjbkaeGreatDoorProg
/-
  A model that came in, opened.
-/
namespace Go.Proofs.YtijohkhpigjbkaeGreatDoor
open Go.ChangeShapes Go.WideShapes Go.ChangeAt Go.RowKit Go.Deep

section
variable {H : Type} {enc : TypeId × Value → H} {w : World} {base : Nat} {spare : Nat → Bool} {held : Bool}

/-- A slice, opened by what its elements are. -/
theorem open_elems {α : Type} [Inhabited α] {t e : TypeId} {size : Nat} (ht : Tryz.prog.underlying t = some (.slice e)) (hc : Tryz.prog.cellsOf e = size) (hsz : 0 < size) (cellsOf : α → List Value) (good : α → Prop)
    (hel : ∀ (n : Nat) (cs' : List Value) (x' : DataW H × List MemPlace), DataW.trod enc Tryz.prog w base spare held n e cs' = some x' → ∃ a : α, cs' = cellsOf a ∧ good a)
    {fuel : Nat} {cs : List Value} {x : DataW H × List MemPlace} (h : DataW.trod enc Tryz.prog w base spare held fuel t cs = some x) :
    ∃ (l : List α) (a : Option Addr) (c : Nat), cs = [.slice a l.length c] ∧ (l.length ≤ c ∧ c ≤ maxLen) ∧ ∀ (i : Nat) (y : α), l[i]? = some y → good y ∧ ∃ b off, a = some ⟨b, off, none⟩ ∧ b < w.heap.size ∧ ∀ (j : Nat) (u : Value), (cellsOf y)[j]? = some u → w.cell? ⟨b, off + (i * size + j), none⟩ = some u := by
  rcases open_slice ht h with ⟨hcs, _⟩ | ⟨a, len, cap, m, n, D, Pl, hcs, _, hl, hcm, hmm, _, hx⟩
  · exact ⟨[], none, 0, hcs, ⟨Nat.le_refl _, Nat.zero_le _⟩, fun i y h => by simp at h⟩
  · have hlm : len ≤ m := by rw [hmm]; split <;> omega
    have each : ∀ i, i < len → ∃ y : α, good y ∧ (cellsOf y).length = size ∧ ∀ j u, (cellsOf y)[j]? = some u → w.cell? (a.add (i * size + j)) = some u := by
      intro i hi
      obtain ⟨cs', hc', ht'⟩ := hx i (by omega)
      obtain ⟨y, rfl, hg⟩ := hel n cs' _ ht'
      obtain ⟨_, hlen, hcell⟩ := World.cells?_some hc'
      rw [hc] at hlen
      refine ⟨y, hg, hlen, fun j u hj => ?_⟩
      have hj3 : j < (cellsOf y).length := (List.getElem?_eq_some_iff.1 hj).1
      have := hcell j (by rw [hc, ← hlen]; exact hj3)
      rw [hc, add_add] at this
      rw [this]; exact hj
    obtain ⟨f, hf⟩ := choose_lt each
    refine ⟨(List.range len).map f, some a, cap, by simpa using hcs, ⟨by simpa using hl, hcm⟩, fun i y hy => ?_⟩
    have hi : i < len := by have := (List.getElem?_eq_some_iff.1 hy).1; simpa using this
    have hyf : y = f i := by simp [hi] at hy; exact hy.symm
    subst hyf
    obtain ⟨hg, hlen, hcell⟩ := hf i hi
    obtain ⟨_, hlen0, hcell0⟩ := hf 0 (by omega)
    obtain ⟨u0, hu0⟩ : ∃ u0, (cellsOf (f 0))[0]? = some u0 := ⟨(cellsOf (f 0))[0]'(by omega), by simp⟩
    have h00 := hcell0 0 u0 hu0
    have hspot : a.spot = none := by simpa [Addr.add] using World.cell?_spot h00
    have hblk : a.block < w.heap.size := by simpa [Addr.add] using World.block_lt_of_cell? w _ h00
    refine ⟨hg, a.block, a.off, ?_, hblk, fun j u hj => ?_⟩
    · obtain ⟨b, off, spot⟩ := a; simp only at hspot; subst hspot; rfl
    · have := hcell j u hj
      obtain ⟨b, off, spot⟩ := a; simp only at hspot; subst hspot
      rwa [add_plain] at this

theorem Tryz.cInt : Tryz.prog.cellsOf 3 = 1 := by kernel_rfl
theorem Tryz.cStr : Tryz.prog.cellsOf 9 = 1 := by kernel_rfl
theorem Tryz.cInts : Tryz.prog.cellsOf 39 = 1 := by kernel_rfl
theorem Tryz.cRows : Tryz.prog.cellsOf 26 = 1 := by kernel_rfl
theorem Tryz.cLits : Tryz.prog.cellsOf 28 = 1 := by kernel_rfl
theorem Tryz.cLit : Tryz.prog.cellsOf 42 = 3 := by kernel_rfl
theorem Tryz.cVar : Tryz.prog.cellsOf 103 = 3 := by kernel_rfl
theorem Tryz.cCon : Tryz.prog.cellsOf 88 = 6 := by kernel_rfl

theorem open_ilist {fuel : Nat} {cs : List Value} {x : DataW H × List MemPlace} (h : DataW.trod enc Tryz.prog w base spare held fuel 39 cs = some x) :
    ∃ v l, cs = [v] ∧ IArg w v l := by
  obtain ⟨l, a, c, hcs, hm, hr⟩ := open_elems (α := Int) Tryz.underlying39 Tryz.cInt (by decide) (fun z => [.int .i64 z]) (fun _ => True)
    (fun n cs' x' h' => by obtain ⟨z, hz, _, _⟩ := DataW.trod_int Tryz.underlying3 h'; exact ⟨z, hz, trivial⟩) h
  refine ⟨_, l, hcs, a, c, rfl, hm, fun i z hz => ?_⟩
  obtain ⟨_, b, off, ha, hb, hc⟩ := hr i z hz
  have := hc 0 _ rfl
  exact ⟨b, off, ha, hb, by simpa using this⟩

theorem open_rlist {fuel : Nat} {cs : List Value} {x : DataW H × List MemPlace} (h : DataW.trod enc Tryz.prog w base spare held fuel 26 cs = some x) :
    ∃ v l, cs = [v] ∧ RArg w v l := by
  obtain ⟨l, a, c, hcs, hm, hr⟩ := open_elems (α := Value × List Int) Tryz.underlying26 Tryz.cInts (by decide) (fun z => [z.1]) (fun z => IArg w z.1 z.2)
    (fun n cs' x' h' => by obtain ⟨v, r, hz, hi⟩ := open_ilist h'; exact ⟨(v, r), hz, hi⟩) h
  refine ⟨_, l.map (·.2), hcs, a, c, by simp, by simpa using hm, fun i r hr' => ?_⟩
  rw [List.getElem?_map] at hr'
  obtain ⟨⟨v, r2⟩, hz, rfl⟩ := Option.map_eq_some_iff.1 hr'
  obtain ⟨hg, b, off, ha, hb, hc⟩ := hr i _ hz
  have := hc 0 _ rfl
  exact ⟨b, off, v, ha, hb, by simpa using this, hg⟩

set_option maxRecDepth 100000 in
theorem one_lit {n : Nat} {cs : List Value} {x : DataW H × List MemPlace} (h : DataW.trod enc Tryz.prog w base spare held n 42 cs = some x) :
    ∃ t : MLit, cs = [.int .i64 t.var, .int .i64 t.op, .int .i64 t.n] := by
  obtain ⟨y0, y1, y2, m, _, hl, h0, h1, h2⟩ := trod_struct3 Tryz.underlying42 h
  rw [Tryz.cLit] at hl
  obtain ⟨k, hk, _, _⟩ := DataW.trod_int Tryz.underlying3 h0
  obtain ⟨p, hp, _, _⟩ := DataW.trod_int Tryz.underlying3 h1
  obtain ⟨s, hs, _, _⟩ := DataW.trod_int Tryz.underlying3 h2
  match cs, hl with
  | [c0, c1, c2], _ =>
    change List.take (Tryz.prog.cellsOf 3) [c0, c1, c2] = _ at hk
    change List.take (Tryz.prog.cellsOf 3) [c1, c2] = _ at hp
    change List.take (Tryz.prog.cellsOf 3) [c2] = _ at hs
    rw [Tryz.cInt] at hk hp hs
    simp at hk hp hs
    exact ⟨⟨k, p, s⟩, by rw [hk, hp, hs]⟩

theorem open_llist {fuel : Nat} {cs : List Value} {x : DataW H × List MemPlace} (h : DataW.trod enc Tryz.prog w base spare held fuel 28 cs = some x) :
    ∃ v l, cs = [v] ∧ LArg w v l := by
  have hinh : Inhabited MLit := ⟨⟨0, 0, 0⟩⟩
  obtain ⟨l, a, c, hcs, hm, hr⟩ := open_elems (α := MLit) Tryz.underlying28 Tryz.cLit (by decide) (fun t => [.int .i64 t.var, .int .i64 t.op, .int .i64 t.n]) (fun _ => True)
    (fun n cs' x' h' => by obtain ⟨t, ht⟩ := one_lit h'; exact ⟨t, ht, trivial⟩) h
  refine ⟨_, l, hcs, a, c, rfl, hm, fun i z hz => ?_⟩
  obtain ⟨_, b, off, ha, hb, hc⟩ := hr i z hz
  have e0 := hc 0 _ rfl
  have e1 := hc 1 _ rfl
  have e2 := hc 2 _ rfl
  rw [← Nat.add_assoc] at e0 e1 e2
  exact ⟨b, off, ha, hb, e0, e1, e2⟩

set_option maxRecDepth 100000 in
theorem one_var {n : Nat} {cs : List Value} {x : DataW H × List MemPlace} (h : DataW.trod enc Tryz.prog w base spare held n 103 cs = some x) :
    ∃ t : MVar, cs = [.string t.name, .int .i64 t.lo, .int .i64 t.hi] ∧ t.name.size ≤ maxLen := by
  obtain ⟨y0, y1, y2, m, _, hl, h0, h1, h2⟩ := trod_struct3 Tryz.underlying103 h
  rw [Tryz.cVar] at hl
  obtain ⟨k, hk, _, hsz⟩ := DataW.trod_string Tryz.underlying9 h0
  obtain ⟨p, hp, _, _⟩ := DataW.trod_int Tryz.underlying3 h1
  obtain ⟨s, hs, _, _⟩ := DataW.trod_int Tryz.underlying3 h2
  match cs, hl with
  | [c0, c1, c2], _ =>
    change List.take (Tryz.prog.cellsOf 9) [c0, c1, c2] = _ at hk
    change List.take (Tryz.prog.cellsOf 3) [c1, c2] = _ at hp
    change List.take (Tryz.prog.cellsOf 3) [c2] = _ at hs
    rw [Tryz.cStr] at hk
    rw [Tryz.cInt] at hp hs
    simp at hk hp hs
    exact ⟨⟨k, p, s⟩, by rw [hk, hp, hs], hsz⟩

theorem open_vlist {fuel : Nat} {cs : List Value} {x : DataW H × List MemPlace} (h : DataW.trod enc Tryz.prog w base spare held fuel 22 cs = some x) :
    ∃ v l, cs = [v] ∧ VArg w v l := by
  have hinh : Inhabited MVar := ⟨⟨ByteArray.empty, 0, 0⟩⟩
  obtain ⟨l, a, c, hcs, hm, hr⟩ := open_elems (α := MVar) Tryz.underlying22 Tryz.cVar (by decide) (fun t => [.string t.name, .int .i64 t.lo, .int .i64 t.hi]) (fun t => t.name.size ≤ maxLen)
    (fun n cs' x' h' => by obtain ⟨t, ht, hs⟩ := one_var h'; exact ⟨t, ht, hs⟩) h
  refine ⟨_, l, hcs, a, c, rfl, hm, fun i z hz => ?_⟩
  obtain ⟨hg, b, off, ha, hb, hc⟩ := hr i z hz
  have e0 := hc 0 _ rfl
  have e1 := hc 1 _ rfl
  have e2 := hc 2 _ rfl
  rw [← Nat.add_assoc] at e0 e1 e2
  exact ⟨hg, b, off, ha, hb, e0, e1, e2⟩

set_option maxRecDepth 100000 in
theorem one_con {n : Nat} {cs : List Value} {x : DataW H × List MemPlace} (h : DataW.trod enc Tryz.prog w base spare held n 88 cs = some x) :
    ∃ (t : MCon) (vv vc vr vl : Value), cs = [.int .i64 t.kind, vv, vc, .int .i64 t.n, vr, vl] ∧ KArg w vv vc vr vl t := by
  obtain ⟨xs, k, _, _, hl, hxl, hf⟩ := DataW.trod_struct Tryz.underlying88 h
  rw [Tryz.cCon] at hl
  match cs, hl, xs, hxl with
  | [c0, c1, c2, c3, c4, c5], _, [y0, y1, y2, y3, y4, y5], _ =>
    have g0 := hf 0 _ rfl
    have g1 := hf 1 _ rfl
    have g2 := hf 2 _ rfl
    have g3 := hf 3 _ rfl
    have g4 := hf 4 _ rfl
    have g5 := hf 5 _ rfl
    obtain ⟨kd, hk, _, _⟩ := DataW.trod_int Tryz.underlying3 g0
    obtain ⟨v1, l1, hv1, i1⟩ := open_ilist g1
    obtain ⟨v2, l2, hv2, i2⟩ := open_ilist g2
    obtain ⟨nn, hn, _, _⟩ := DataW.trod_int Tryz.underlying3 g3
    obtain ⟨v4, l4, hv4, i4⟩ := open_rlist g4
    obtain ⟨v5, l5, hv5, i5⟩ := open_llist g5
    change List.take (Tryz.prog.cellsOf 3) [c0, c1, c2, c3, c4, c5] = _ at hk
    change List.take (Tryz.prog.cellsOf 39) [c1, c2, c3, c4, c5] = _ at hv1
    change List.take (Tryz.prog.cellsOf 39) [c2, c3, c4, c5] = _ at hv2
    change List.take (Tryz.prog.cellsOf 3) [c3, c4, c5] = _ at hn
    change List.take (Tryz.prog.cellsOf 26) [c4, c5] = _ at hv4
    change List.take (Tryz.prog.cellsOf 28) [c5] = _ at hv5
    rw [Tryz.cInt] at hk hn
    rw [Tryz.cInts] at hv1 hv2
    rw [Tryz.cRows] at hv4
    rw [Tryz.cLits] at hv5
    simp at hk hv1 hv2 hn hv4 hv5
    exact ⟨⟨kd, l1, l2, nn, l4, l5⟩, v1, v2, v4, v5, by rw [hk, hv1, hv2, hn, hv4, hv5], i1, i2, i4, i5⟩

theorem open_clist {fuel : Nat} {cs : List Value} {x : DataW H × List MemPlace} (h : DataW.trod enc Tryz.prog w base spare held fuel 23 cs = some x) :
    ∃ v l, cs = [v] ∧ CArg w v l := by
  have hinh : Inhabited (MCon × Value × Value × Value × Value) := ⟨⟨0, [], [], 0, [], []⟩, .bool false, .bool false, .bool false, .bool false⟩
  obtain ⟨l, a, c, hcs, hm, hr⟩ := open_elems (α := MCon × Value × Value × Value × Value) Tryz.underlying23 Tryz.cCon (by decide)
    (fun t => [.int .i64 t.1.kind, t.2.1, t.2.2.1, .int .i64 t.1.n, t.2.2.2.1, t.2.2.2.2]) (fun t => KArg w t.2.1 t.2.2.1 t.2.2.2.1 t.2.2.2.2 t.1)
    (fun n cs' x' h' => by obtain ⟨t, vv, vc, vr, vl, ht, hk⟩ := one_con h'; exact ⟨(t, vv, vc, vr, vl), ht, hk⟩) h
  refine ⟨_, l.map (·.1), hcs, a, c, by simp, by simpa using hm, fun i r hr' => ?_⟩
  rw [List.getElem?_map] at hr'
  obtain ⟨⟨t, vv, vc, vr, vl⟩, hz, rfl⟩ := Option.map_eq_some_iff.1 hr'
  obtain ⟨hg, b, off, ha, hb, hc⟩ := hr i _ hz
  have e0 := hc 0 _ rfl
  have e1 := hc 1 _ rfl
  have e2 := hc 2 _ rfl
  have e3 := hc 3 _ rfl
  have e4 := hc 4 _ rfl
  have e5 := hc 5 _ rfl
  rw [← Nat.add_assoc] at e0 e1 e2 e3 e4 e5
  exact ⟨b, off, vv, vc, vr, vl, ha, hb, e0, e1, e2, e3, e4, e5, hg⟩

theorem Tryz.cModel : Tryz.prog.cellsOf 25 = 4 := by kernel_rfl
set_option maxRecDepth 100000 in
/-- A model by value. -/
theorem open_model {r : Reach} {b0 : Nat} {v : Value} {d : DataW H} {p : List MemPlace} (hv : Value.okWide Tryz.prog w r b0 25 v) (h : DataW.Trod enc Tryz.prog w base spare held 25 v d p) :
    ∃ vs cs m, v = modV vs cs m ∧ MArg w vs cs m := by
  obtain ⟨v0, v1, v2, v3, y0, y1, y2, y3, n, rfl, _, _, h0, h1, h2, h3⟩ := Go.Joins.open_agg4 Tryz.underlying25 (by kernel_rfl) Tryz.cModel hv h
  obtain ⟨a0, l0, e0, i0⟩ := open_vlist h0
  obtain ⟨a1, l1, e1, i1⟩ := open_clist h1
  obtain ⟨g, hg, _, _⟩ := DataW.trod_int Tryz.underlying3 h2
  obtain ⟨q, hq, _, _⟩ := DataW.trod_int Tryz.underlying3 h3
  cases e0; cases e1; cases hg; cases hq
  exact ⟨v0, v1, ⟨l0, l1, g, q⟩, rfl, i0, i1⟩
end
end Go.Proofs.YtijohkhpigjbkaeGreatDoor
/-
  WALK: two(): the small model that all statements begin with.
-/
namespace Go.Proofs.YtijohkhpigjbkaeGreatDoor
open Go.RowKit

def twoM : Mod := ⟨[⟨⟨#[120]⟩, 0, 2⟩, ⟨⟨#[121]⟩, 0, 2⟩], [⟨1, [0, 1], [1, -1], -1, [], []⟩], 1, 1⟩
theorem two_checks : checkM twoM = 0 := by kernel_rfl

theorem five_blocks (w : World) (o1 o2 o3 o4 o5 : Obj) :
    (((((w.alloc o1).alloc o2).alloc o3).alloc o4).alloc o5).heap[w.heap.size + 1]? = some o2 ∧ (((((w.alloc o1).alloc o2).alloc o3).alloc o4).alloc o5).heap[w.heap.size + 1 + 1]? = some o3 ∧
    (((((w.alloc o1).alloc o2).alloc o3).alloc o4).alloc o5).heap[w.heap.size + 1 + 1 + 1]? = some o4 ∧ (((((w.alloc o1).alloc o2).alloc o3).alloc o4).alloc o5).heap[w.heap.size + 1 + 1 + 1 + 1]? = some o5 := by
  refine ⟨?_, ?_, ?_, ?_⟩
  all_goals
    show (((((w.heap.push _).push _).push _).push _).push _)[_]? = _
    simp only [Array.getElem?_push, Array.size_push]
    repeat first | rw [if_pos (by omega)] | rw [if_neg (by omega)]
  all_goals rfl

set_option maxHeartbeats 400000 in
set_option maxRecDepth 100000 in
theorem two_any (w : World) :
    Calls Tryz.prog 43 #[] w fun e w' => ∃ vs cs, e = .returned (modV vs cs twoM) ∧ MArg w' vs cs twoM ∧ Below w.heap.size w w' := by
  go_enter Tryz.func43, Tryz.ntmps43
  go_wp2
  refine bodyPost_ret (v := modV (.slice (some ⟨w.heap.size + 1, 0, none⟩) 2 2) (.slice (some ⟨w.heap.size + 1 + 1 + 1 + 1, 0, none⟩) 1 1) twoM) (by simp [results, Tryz.results43, go_sem, modV, twoM]) rfl ⟨_, _, rfl, ⟨?_, ?_⟩, ?_⟩
  · refine ⟨_, _, rfl, ⟨by decide, by unfold maxLen; decide⟩, fun i t ht => ?_⟩
    have hb := (five_blocks w (.cells #[.slice (some ⟨w.heap.size + 1, 0, none⟩) 2 2, .slice (some ⟨w.heap.size + 1 + 1 + 1 + 1, 0, none⟩) 1 1, .int .i64 1, .int .i64 1] 25) (.cells #[.string ⟨#[120]⟩, .int .i64 0, .int .i64 2, .string ⟨#[121]⟩, .int .i64 0, .int .i64 2] 103) (.cells #[.int .i64 0, .int .i64 1] 3) (.cells #[.int .i64 1, .int .i64 (-1)] 3) (.cells #[.int .i64 1, .slice (some ⟨w.heap.size + 1 + 1, 0, none⟩) 2 2, .slice (some ⟨w.heap.size + 1 + 1 + 1, 0, none⟩) 2 2, .int .i64 (-1), .slice none 0 0, .slice none 0 0] 88)).1
    match i, ht with
    | 0, ht => cases ht; exact ⟨by unfold maxLen; decide, _, _, rfl, by simp, by rw [Lib.cell_of_heap hb]; rfl, by rw [Lib.cell_of_heap hb]; rfl, by rw [Lib.cell_of_heap hb]; rfl⟩
    | 1, ht => cases ht; exact ⟨by unfold maxLen; decide, _, _, rfl, by simp, by rw [Lib.cell_of_heap hb]; rfl, by rw [Lib.cell_of_heap hb]; rfl, by rw [Lib.cell_of_heap hb]; rfl⟩
  · refine ⟨_, _, rfl, ⟨by decide, by unfold maxLen; decide⟩, fun i t ht => ?_⟩
    obtain ⟨_, hb2, hb3, hb4⟩ := five_blocks w (.cells #[.slice (some ⟨w.heap.size + 1, 0, none⟩) 2 2, .slice (some ⟨w.heap.size + 1 + 1 + 1 + 1, 0, none⟩) 1 1, .int .i64 1, .int .i64 1] 25) (.cells #[.string ⟨#[120]⟩, .int .i64 0, .int .i64 2, .string ⟨#[121]⟩, .int .i64 0, .int .i64 2] 103) (.cells #[.int .i64 0, .int .i64 1] 3) (.cells #[.int .i64 1, .int .i64 (-1)] 3) (.cells #[.int .i64 1, .slice (some ⟨w.heap.size + 1 + 1, 0, none⟩) 2 2, .slice (some ⟨w.heap.size + 1 + 1 + 1, 0, none⟩) 2 2, .int .i64 (-1), .slice none 0 0, .slice none 0 0] 88)
    match i, ht with
    | 0, ht =>
      cases ht
      refine ⟨_, _, .slice (some ⟨w.heap.size + 1 + 1, 0, none⟩) 2 2, .slice (some ⟨w.heap.size + 1 + 1 + 1, 0, none⟩) 2 2, .slice none 0 0, .slice none 0 0, rfl, by simp, by rw [Lib.cell_of_heap hb4]; rfl, by rw [Lib.cell_of_heap hb4]; rfl, by rw [Lib.cell_of_heap hb4]; rfl, by rw [Lib.cell_of_heap hb4]; rfl, by rw [Lib.cell_of_heap hb4]; rfl, by rw [Lib.cell_of_heap hb4]; rfl, ?_⟩
      refine ⟨⟨_, _, rfl, ⟨by decide, by unfold maxLen; decide⟩, fun i z hz => ?_⟩, ⟨_, _, rfl, ⟨by decide, by unfold maxLen; decide⟩, fun i z hz => ?_⟩, ⟨_, _, rfl, ⟨by decide, by unfold maxLen; decide⟩, fun i z hz => by simp at hz⟩, ⟨_, _, rfl, ⟨by decide, by unfold maxLen; decide⟩, fun i z hz => by simp at hz⟩⟩
      · match i, hz with
        | 0, hz => cases hz; exact ⟨_, _, rfl, by simp, by rw [Lib.cell_of_heap hb2]; rfl⟩
        | 1, hz => cases hz; exact ⟨_, _, rfl, by simp, by rw [Lib.cell_of_heap hb2]; rfl⟩
      · match i, hz with
        | 0, hz => cases hz; exact ⟨_, _, rfl, by simp, by rw [Lib.cell_of_heap hb3]; rfl⟩
        | 1, hz => cases hz; exact ⟨_, _, rfl, by simp, by rw [Lib.cell_of_heap hb3]; rfl⟩
  · exact (((((Below.refl _ _).alloc (Nat.le_refl _) _).alloc (by simp) _).alloc (by simp; omega) _).alloc (by simp; omega) _).alloc (by simp; omega) _
end Go.Proofs.YtijohkhpigjbkaeGreatDoor
/-
  PLAIN: stores, and what the program's calls say of them, as functions on data; no program in it.
-/
namespace Go.Proofs.YtijohkhpigjbkaeGreatDoor

abbrev Sto := List (List Int)
def insideB (v : MVar) (n : Int) : Bool := decide (v.lo ≤ n) && decide (n ≤ v.hi)
def risesB : List Int → Bool
  | a :: b :: r => decide (a < b) && risesB (b :: r)
  | _ => true
def rangeS (vs : List MVar) (s : Sto) : Bool := (vs.zip s).all fun p => p.2.all (insideB p.1)
def checkV (vs : List MVar) (s : Sto) : Int :=
  if s.length = vs.length then (if rangeS vs s then (if s.all risesB then 0 else 4) else 3) else 1
/-- What is wrong with a model, then with the stores, one after the other. -/
def checkL (m : Mod) (l : List Sto) : Int := if checkM m = 0 then firstE (l.map (checkV m.vars)) else checkM m
def hasB (l : List Int) (n : Int) : Bool := l.any (fun k => n == k)
def meetR (a b : List Int) : List Int := a.filter (hasB b)
def meetS (s t : Sto) : Sto := List.zipWith meetR s t
def withinR (a b : List Int) : Bool := a.all (hasB b)
def withinS (s t : Sto) : Bool := (s.zip t).all fun p => withinR p.1 p.2
def failedS (s : Sto) : Bool := s.any fun r => decide (r.length = 0)
def spanR (lo hi : Int) : List Int := (List.range (hi + 1 - lo).toNat).map fun (k : Nat) => lo + (k : Int)
def beginS (vs : List MVar) : Sto := vs.map fun v => spanR v.lo v.hi

theorem hasB_iff (l : List Int) (n : Int) : hasB l n = true ↔ n ∈ l := by
  unfold hasB; rw [List.any_eq_true]
  constructor
  · rintro ⟨k, hk, he⟩; rwa [beq_iff_eq.1 he]
  · intro h; exact ⟨n, h, by simp⟩
theorem withinR_iff (a b : List Int) : withinR a b = true ↔ ∀ n ∈ a, n ∈ b := by
  unfold withinR; rw [List.all_eq_true]
  exact ⟨fun h n hn => (hasB_iff b n).1 (h n hn), fun h n hn => (hasB_iff b n).2 (h n hn)⟩
theorem mem_meetR (a b : List Int) (n : Int) : n ∈ meetR a b ↔ n ∈ a ∧ n ∈ b := by
  unfold meetR; rw [List.mem_filter, hasB_iff]
theorem rises_pair (l : List Int) : risesB l = true ↔ l.Pairwise (· < ·) := by
  induction l with
  | nil => simp [risesB]
  | cons a r ih =>
    cases r with
    | nil => simp [risesB]
    | cons b r =>
      simp only [risesB, Bool.and_eq_true, decide_eq_true_eq]
      rw [ih]
      constructor
      · rintro ⟨hab, hp⟩
        refine List.pairwise_cons.2 ⟨fun c hc => ?_, hp⟩
        rcases List.mem_cons.1 hc with rfl | hc
        · exact hab
        · have := (List.pairwise_cons.1 hp).1 c hc; omega
      · intro hp
        exact ⟨(List.pairwise_cons.1 hp).1 b (List.mem_cons_self ..), (List.pairwise_cons.1 hp).2⟩
theorem meetS_len (s t : Sto) (h : t.length = s.length) : (meetS s t).length = s.length := by simp [meetS, h]
theorem meetS_get (s t : Sto) (i : Nat) (a b : List Int) (ha : s[i]? = some a) (hb : t[i]? = some b) : (meetS s t)[i]? = some (meetR a b) := by
  simp [meetS, List.getElem?_zipWith, ha, hb]

theorem all_zip {α β : Type} (p : α × β → Bool) : ∀ (a : List α) (b : List β), (a.zip b).all p = true ↔ ∀ (i : Nat) x y, a[i]? = some x → b[i]? = some y → p (x, y) = true
  | [], b => by simp
  | x :: a, [] => by simp
  | x :: a, y :: b => by
    rw [List.zip_cons_cons, List.all_cons, Bool.and_eq_true, all_zip p a b]
    constructor
    · rintro ⟨h0, h1⟩ i u v hu hv
      cases i with
      | zero => simp at hu hv; subst hu; subst hv; exact h0
      | succ i => exact h1 i u v (by simpa using hu) (by simpa using hv)
    · intro h
      exact ⟨h 0 x y rfl rfl, fun i u v hu hv => h (i + 1) u v (by simpa using hu) (by simpa using hv)⟩

theorem checkV_ok (vs : List MVar) (s : Sto) : checkV vs s = 0 ↔ s.length = vs.length ∧ rangeS vs s = true ∧ s.all risesB = true := by
  unfold checkV
  by_cases h1 : s.length = vs.length
  · cases h2 : rangeS vs s <;> cases h3 : s.all risesB <;> simp [h1]
  · simp [h1]
theorem checkV_meet (vs : List MVar) (s t : Sto) (hs : checkV vs s = 0) (ht : checkV vs t = 0) : checkV vs (meetS s t) = 0 := by
  rw [checkV_ok] at *
  obtain ⟨s1, s2, s3⟩ := hs
  obtain ⟨t1, t2, t3⟩ := ht
  have hl : t.length = s.length := by omega
  refine ⟨by rw [meetS_len s t hl, s1], ?_, ?_⟩
  · unfold rangeS at *
    rw [all_zip] at *
    intro i v r hv hr
    have hi : i < s.length := by rw [← meetS_len s t hl]; exact (List.getElem?_eq_some_iff.1 hr).1
    have ha : s[i]? = some s[i] := by simp [hi]
    have hb : t[i]? = some (t[i]'(by omega)) := by simp [show i < t.length by omega]
    rw [meetS_get s t i _ _ ha hb] at hr
    cases hr
    have h0 := s2 i v _ hv ha
    rw [List.all_eq_true] at h0 ⊢
    intro n hn
    exact h0 n ((mem_meetR _ _ _).1 hn).1
  · rw [List.all_eq_true] at *
    intro r hr
    obtain ⟨i, hi⟩ := List.mem_iff_getElem?.1 hr
    have hi' : i < s.length := by rw [← meetS_len s t hl]; exact (List.getElem?_eq_some_iff.1 hi).1
    have ha : s[i]? = some s[i] := by simp [hi']
    have hb : t[i]? = some (t[i]'(by omega)) := by simp [show i < t.length by omega]
    rw [meetS_get s t i _ _ ha hb] at hi
    cases hi
    rw [rises_pair]
    exact ((rises_pair _).1 (s3 _ (List.mem_of_getElem? ha))).sublist (List.filter_sublist)
theorem within_meet_l (s t : Sto) (hl : t.length = s.length) : withinS (meetS s t) s = true := by
  unfold withinS
  rw [all_zip]
  intro i r a hr ha
  have hi : i < s.length := (List.getElem?_eq_some_iff.1 ha).1
  have hb : t[i]? = some (t[i]'(by omega)) := by simp [show i < t.length by omega]
  rw [meetS_get s t i _ _ ha hb] at hr
  cases hr
  exact (withinR_iff _ _).2 fun n hn => ((mem_meetR _ _ _).1 hn).1
theorem within_meet_r (s t : Sto) (hl : t.length = s.length) : withinS (meetS s t) t = true := by
  unfold withinS
  rw [all_zip]
  intro i r b hr hb
  have hi : i < t.length := (List.getElem?_eq_some_iff.1 hb).1
  have ha : s[i]? = some (s[i]'(by omega)) := by simp [show i < s.length by omega]
  rw [meetS_get s t i _ _ ha hb] at hr
  cases hr
  exact (withinR_iff _ _).2 fun n hn => ((mem_meetR _ _ _).1 hn).2
theorem within_meet (s t u : Sto) (hl : t.length = s.length) (hu : u.length = s.length) : withinS u (meetS s t) = (withinS u s && withinS u t) := by
  rw [Bool.eq_iff_iff, Bool.and_eq_true]
  unfold withinS
  rw [all_zip, all_zip, all_zip]
  constructor
  · intro h
    refine ⟨fun i r a hr ha => ?_, fun i r b hr hb => ?_⟩
    · have hi : i < s.length := (List.getElem?_eq_some_iff.1 ha).1
      have hb : t[i]? = some (t[i]'(by omega)) := by simp [show i < t.length by omega]
      have := h i r _ hr (meetS_get s t i _ _ ha hb)
      exact (withinR_iff _ _).2 fun n hn => ((mem_meetR _ _ _).1 ((withinR_iff _ _).1 this n hn)).1
    · have hi : i < t.length := (List.getElem?_eq_some_iff.1 hb).1
      have ha : s[i]? = some (s[i]'(by omega)) := by simp [show i < s.length by omega]
      have := h i r _ hr (meetS_get s t i _ _ ha hb)
      exact (withinR_iff _ _).2 fun n hn => ((mem_meetR _ _ _).1 ((withinR_iff _ _).1 this n hn)).2
  · rintro ⟨h1, h2⟩ i r x hr hx
    have hi : i < s.length := by rw [← meetS_len s t hl]; exact (List.getElem?_eq_some_iff.1 hx).1
    have ha : s[i]? = some (s[i]'(by omega)) := by simp [hi]
    have hb : t[i]? = some (t[i]'(by omega)) := by simp [show i < t.length by omega]
    rw [meetS_get s t i _ _ ha hb] at hx
    cases hx
    refine (withinR_iff _ _).2 fun n hn => (mem_meetR _ _ _).2 ⟨?_, ?_⟩
    · exact (withinR_iff _ _).1 (h1 i r _ hr ha) n hn
    · exact (withinR_iff _ _).1 (h2 i r _ hr hb) n hn
end Go.Proofs.YtijohkhpigjbkaeGreatDoor
/-
  PLAIN: the store of those values that stay.
-/
namespace Go.Proofs.YtijohkhpigjbkaeGreatDoor

def siftS (s : Sto) (p : Nat → Int → Bool) : Sto := s.mapIdx fun k r => r.filter (p k)
theorem siftS_len (s : Sto) (p : Nat → Int → Bool) : (siftS s p).length = s.length := by simp [siftS]
theorem siftS_get (s : Sto) (p : Nat → Int → Bool) (k : Nat) (r : List Int) (h : s[k]? = some r) : (siftS s p)[k]? = some (r.filter (p k)) := by
  simp [siftS, h]
theorem siftS_back (s : Sto) (p : Nat → Int → Bool) (k : Nat) (q : List Int) (h : (siftS s p)[k]? = some q) : ∃ r, s[k]? = some r ∧ q = r.filter (p k) := by
  have hk : k < s.length := by rw [← siftS_len s p]; exact (List.getElem?_eq_some_iff.1 h).1
  refine ⟨s[k], by simp [hk], ?_⟩
  rw [siftS_get s p k s[k] (by simp [hk])] at h
  exact (Option.some.inj h).symm
theorem sto_ext (s t : Sto) (hl : s.length = t.length) (h : ∀ (k : Nat) r q, s[k]? = some r → t[k]? = some q → r = q) : s = t := by
  apply List.ext_getElem? 
  intro k
  by_cases hk : k < s.length
  · have h1 : s[k]? = some s[k] := by simp [hk]
    have h2 : t[k]? = some (t[k]'(by omega)) := by simp [show k < t.length by omega]
    rw [h1, h2, h k _ _ h1 h2]
  · rw [List.getElem?_eq_none (by omega), List.getElem?_eq_none (by omega)]
theorem checkV_sift (vs : List MVar) (s : Sto) (p : Nat → Int → Bool) (hs : checkV vs s = 0) : checkV vs (siftS s p) = 0 := by
  rw [checkV_ok] at *
  obtain ⟨s1, s2, s3⟩ := hs
  refine ⟨by rw [siftS_len, s1], ?_, ?_⟩
  · unfold rangeS at *
    rw [all_zip] at *
    intro i v r hv hr
    obtain ⟨q, hq, rfl⟩ := siftS_back s p i r hr
    have h0 := s2 i v q hv hq
    rw [List.all_eq_true] at h0 ⊢
    intro n hn
    exact h0 n (List.mem_filter.1 hn).1
  · rw [List.all_eq_true] at *
    intro r hr
    obtain ⟨i, hi⟩ := List.mem_iff_getElem?.1 hr
    obtain ⟨q, hq, rfl⟩ := siftS_back s p i r hi
    rw [rises_pair]
    exact ((rises_pair _).1 (s3 _ (List.mem_of_getElem? hq))).sublist List.filter_sublist
theorem within_sift (s : Sto) (p : Nat → Int → Bool) : withinS (siftS s p) s = true := by
  unfold withinS
  rw [all_zip]
  intro i r a hr ha
  obtain ⟨q, hq, rfl⟩ := siftS_back s p i r hr
  rw [ha] at hq; cases hq
  exact (withinR_iff _ _).2 fun n hn => (List.mem_filter.1 hn).1
theorem meetS_sift (s t : Sto) (h : t.length = s.length) : meetS s t = siftS s fun k z => hasB (t.getD k []) z := by
  refine sto_ext _ _ (by rw [meetS_len s t h, siftS_len]) fun k r q hr hq => ?_
  obtain ⟨a, ha, rfl⟩ := siftS_back _ _ _ _ hq
  have hk : k < s.length := (List.getElem?_eq_some_iff.1 ha).1
  have hb : t[k]? = some (t[k]'(by omega)) := by simp [show k < t.length by omega]
  rw [meetS_get s t k _ _ ha hb] at hr
  cases hr
  unfold meetR
  rw [List.getD_eq_getElem?_getD, hb]; rfl
def hasS (s : Sto) (vals : List Int) : Bool := decide (s.length = vals.length) && (s.zip vals).all fun p => hasB p.1 p.2
theorem hasS_iff (s : Sto) (vals : List Int) : hasS s vals = true ↔ s.length = vals.length ∧ ∀ (k : Nat) r x, s[k]? = some r → vals[k]? = some x → x ∈ r := by
  unfold hasS
  rw [Bool.and_eq_true, decide_eq_true_eq, all_zip]
  exact ⟨fun h => ⟨h.1, fun k r x hr hx => (hasB_iff _ _).1 (h.2 k r x hr hx)⟩, fun h => ⟨h.1, fun k r x hr hx => (hasB_iff _ _).2 (h.2 k r x hr hx)⟩⟩
end Go.Proofs.YtijohkhpigjbkaeGreatDoor
/-
  PLAIN: literals, and what the program's calls say of them; that a literal and its opposite part the values.
-/
namespace Go.Proofs.YtijohkhpigjbkaeGreatDoor

def litE (vs : List MVar) (l : MLit) : Int :=
  if l.var < 0 ∨ (vs.length : Int) ≤ l.var then 5 else if l.op < 1 ∨ 4 < l.op then 7 else if l.n < -1000 ∨ 1000 < l.n then 3 else 0
def lcheckA (m : Mod) (l : MLit) : Int := if checkM m = 0 then litE m.vars l else checkM m
def lholdsA (m : Mod) (l : MLit) (x : Int) : Bool × Int := if lcheckA m l = 0 then (litV x l, 0) else (false, lcheckA m l)
def oppL (l : MLit) : MLit := if l.op = 1 then ⟨l.var, 2, l.n + 1⟩ else if l.op = 2 then ⟨l.var, 1, l.n - 1⟩ else if l.op = 3 then ⟨l.var, 4, l.n⟩ else ⟨l.var, 3, l.n⟩
def noLit : MLit := ⟨0, 0, 0⟩
def lnotA (m : Mod) (l : MLit) : MLit × Int :=
  if lcheckA m l = 0 then (if litE m.vars (oppL l) = 0 then (oppL l, 0) else (noLit, litE m.vars (oppL l))) else (noLit, lcheckA m l)
def linE (m : Mod) (s : Sto) (l : MLit) : Int := if checkL m [s] = 0 then litE m.vars l else checkL m [s]
def heldN (r : List Int) (l : MLit) : Nat := (r.filter fun x => litV x l).length
def toldR (r : List Int) (l : MLit) : Int := if heldN r l = 0 then -1 else if heldN r l = r.length then 1 else 0
def rowOf (s : Sto) (l : MLit) : List Int := s.getD l.var.toNat []
def ltoldA (m : Mod) (s : Sto) (l : MLit) : Int × Int := if linE m s l = 0 then (toldR (rowOf s l) l, 0) else (0, linE m s l)
def putB (l : MLit) (k : Nat) (z : Int) : Bool := decide ((k : Int) ≠ l.var) || litV z l
def putS (s : Sto) (l : MLit) : Sto := siftS s (putB l)
def lputA (m : Mod) (s : Sto) (l : MLit) : Sto × Int := if linE m s l = 0 then (putS s l, 0) else ([], linE m s l)

theorem litE_ok (vs : List MVar) (l : MLit) : litE vs l = 0 ↔ (0 ≤ l.var ∧ l.var < vs.length) ∧ (1 ≤ l.op ∧ l.op ≤ 4) ∧ (-1000 ≤ l.n ∧ l.n ≤ 1000) := by
  unfold litE
  split
  · constructor
    · intro h; cases h
    · intro h; omega
  · split
    · constructor
      · intro h; cases h
      · intro h; omega
    · split
      · constructor
        · intro h; cases h
        · intro h; omega
      · constructor
        · intro _; omega
        · intro _; rfl
theorem oppL_var (l : MLit) : (oppL l).var = l.var := by
  unfold oppL
  split
  · rfl
  · split
    · rfl
    · split <;> rfl
theorem oppL_op (l : MLit) : 1 ≤ (oppL l).op ∧ (oppL l).op ≤ 4 := by
  unfold oppL
  split
  · simp
  · split
    · simp
    · split <;> simp
theorem litV_opp (x : Int) (l : MLit) (h : 1 ≤ l.op ∧ l.op ≤ 4) : litV x (oppL l) = !litV x l := by
  rcases (show l.op = 1 ∨ l.op = 2 ∨ l.op = 3 ∨ l.op = 4 by omega) with h | h | h | h
  · simp only [oppL, litV, h]
    simp
    by_cases q : x ≤ l.n
    · rw [decide_eq_true q, decide_eq_false (by omega)]; rfl
    · rw [decide_eq_false q, decide_eq_true (by omega)]; rfl
  · simp only [oppL, litV, h]
    simp
    by_cases q : l.n ≤ x
    · rw [decide_eq_true q, decide_eq_false (by omega)]; rfl
    · rw [decide_eq_false q, decide_eq_true (by omega)]; rfl
  · simp only [oppL, litV, h]
    simp [bne]
  · simp only [oppL, litV, h]
    simp [bne]
theorem linE_ok (m : Mod) (s : Sto) (l : MLit) (h : linE m s l = 0) : checkL m [s] = 0 ∧ litE m.vars l = 0 := by
  unfold linE at h
  split at h
  · rename_i h0; exact ⟨h0, h⟩
  · contradiction
theorem checkL_one (m : Mod) (s : Sto) : checkL m [s] = 0 ↔ checkM m = 0 ∧ checkV m.vars s = 0 := by
  unfold checkL
  by_cases h : checkM m = 0
  · rw [if_pos h]
    simp only [List.map, firstE]
    by_cases h1 : checkV m.vars s = 0
    · simp [h, h1]
    · simp [h1]
  · rw [if_neg h]; simp [h]
theorem put_row (s : Sto) (l : MLit) (i : Nat) (hi : l.var = (i : Int)) (r : List Int) (hr : s[i]? = some r) : (putS s l)[i]? = some (r.filter fun z => litV z l) := by
  unfold putS
  rw [siftS_get s _ i r hr]
  congr 1
  refine List.filter_congr fun z _ => ?_
  unfold putB
  rw [hi]; simp
theorem held_parts (r : List Int) (l : MLit) (h : 1 ≤ l.op ∧ l.op ≤ 4) : heldN r l + heldN r (oppL l) = r.length := by
  unfold heldN
  induction r with
  | nil => rfl
  | cons a r ih =>
    rw [List.filter_cons, List.filter_cons, litV_opp a l h]
    cases litV a l <;> simp <;> omega
theorem lcheck_ok (m : Mod) (l : MLit) (h : lcheckA m l = 0) : checkM m = 0 ∧ litE m.vars l = 0 := by
  unfold lcheckA at h
  split at h
  · rename_i h0; exact ⟨h0, h⟩
  · contradiction
end Go.Proofs.YtijohkhpigjbkaeGreatDoor
/-
  PLAIN: clauses, and what they leave of a store; that no values are lost.
-/
namespace Go.Proofs.YtijohkhpigjbkaeGreatDoor

abbrev Cla := List MLit
/-- Does a clause hold of values? -/
def claB (c : Cla) (vals : List Int) : Bool := c.any fun l => litV (vals.getD l.var.toNat 0) l
def claE (vs : List MVar) (c : Cla) : Int := if 40 < c.length then 2 else firstE (c.map (litE vs))
/-- Does one of the literals of a variable hold of a value? -/
def oneB (c : Cla) (k : Nat) (z : Int) : Bool := c.any fun l => decide (l.var = (k : Int)) && litV z l
/-- The literals that are not told to hold of nothing. -/
def liveL (s : Sto) (c : Cla) : Cla := c.filter fun l => decide (heldN (rowOf s l) l ≠ 0)
def clasE (vs : List MVar) (l : List Cla) : Int := if 600 < l.length then 2 else firstE (l.map (claE vs))
def liveB (s : Sto) (l : MLit) : Bool := (rowOf s l).any fun z => litV z l
def unitS (s : Sto) (c : Cla) : Sto :=
  if failedS s then s
  else match liveL s c with
    | [] => siftS s fun _ _ => false
    | l0 :: rest => if rest.all (fun l => decide (l.var = l0.var)) then siftS s (fun k z => decide ((k : Int) ≠ l0.var) || oneB c k z) else s
def denyS (s : Sto) (c : Cla) : Sto := siftS s fun k z => !oneB c k z

theorem held_pos (r : List Int) (l : MLit) : heldN r l ≠ 0 ↔ ∃ x ∈ r, litV x l = true := by
  unfold heldN
  rw [Ne, List.length_eq_zero_iff, List.filter_eq_nil_iff]
  constructor
  · intro h
    apply Classical.byContradiction
    intro hn
    exact h fun x hx hl => hn ⟨x, hx, hl⟩
  · rintro ⟨x, hx, hl⟩ h
    exact h x hx hl
theorem mem_live (s : Sto) (c : Cla) (l : MLit) : l ∈ liveL s c ↔ l ∈ c ∧ ∃ x ∈ rowOf s l, litV x l = true := by
  unfold liveL
  rw [List.mem_filter, decide_eq_true_eq, held_pos]
theorem oneB_iff (c : Cla) (k : Nat) (z : Int) : oneB c k z = true ↔ ∃ l ∈ c, l.var = (k : Int) ∧ litV z l = true := by
  unfold oneB
  rw [List.any_eq_true]
  exact ⟨fun ⟨l, h1, h2⟩ => ⟨l, h1, by simpa using h2⟩, fun ⟨l, h1, h2⟩ => ⟨l, h1, by simpa using h2⟩⟩
theorem claB_iff (c : Cla) (vals : List Int) : claB c vals = true ↔ ∃ l ∈ c, litV (vals.getD l.var.toNat 0) l = true := by unfold claB; rw [List.any_eq_true]

/-- All literals of a clause are of variables of the store. -/
def ClaIn (s : Sto) (c : Cla) : Prop := ∀ l ∈ c, 0 ≤ l.var ∧ l.var < (s.length : Int)
theorem has_val (s : Sto) (vals : List Int) (h : hasS s vals = true) (l : MLit) (h0 : 0 ≤ l.var) (h1 : l.var < (s.length : Int)) : vals.getD l.var.toNat 0 ∈ rowOf s l := by
  rw [hasS_iff] at h
  have hi : l.var.toNat < s.length := by omega
  have e1 : s[l.var.toNat]? = some s[l.var.toNat] := by simp [hi]
  have e2 : vals[l.var.toNat]? = some (vals[l.var.toNat]'(by omega)) := by simp [show l.var.toNat < vals.length by omega]
  unfold rowOf
  rw [List.getD_eq_getElem?_getD, List.getD_eq_getElem?_getD, e1, e2]
  exact h.2 _ _ _ e1 e2
theorem has_not_failed (s : Sto) (vals : List Int) (h : hasS s vals = true) : failedS s = false := by
  rw [hasS_iff] at h
  cases hf : failedS s
  · rfl
  · unfold failedS at hf
    rw [List.any_eq_true] at hf
    obtain ⟨r, hr, h0⟩ := hf
    obtain ⟨k, hk⟩ := List.mem_iff_getElem?.1 hr
    have hkl : k < s.length := (List.getElem?_eq_some_iff.1 hk).1
    have e2 : vals[k]? = some (vals[k]'(by omega)) := by simp [show k < vals.length by omega]
    have := h.2 k r _ hk e2
    have hn : r = [] := List.eq_nil_of_length_eq_zero (by simpa using h0)
    rw [hn] at this
    cases this
/-- NO VALUES OF WHICH THE CLAUSE HOLDS ARE LOST BY UNIT. -/
theorem unit_keeps (s : Sto) (c : Cla) (hc : ClaIn s c) (vals : List Int) (hs : hasS s vals = true) (hh : claB c vals = true) : hasS (unitS s c) vals = true := by
  obtain ⟨l, hl, hlv⟩ := (claB_iff c vals).1 hh
  obtain ⟨h0, h1⟩ := hc l hl
  have hlive : l ∈ liveL s c := (mem_live s c l).2 ⟨hl, _, has_val s vals hs l h0 h1, hlv⟩
  unfold unitS
  rw [has_not_failed s vals hs, if_neg (by simp)]
  match hq : liveL s c with
  | [] => rw [hq] at hlive; cases hlive
  | l0 :: rest =>
    simp only
    split
    · rename_i hall
      have hv : l.var = l0.var := by
        rw [hq] at hlive
        rcases List.mem_cons.1 hlive with rfl | h
        · rfl
        · simpa using List.all_eq_true.1 hall l h
      rw [hasS_iff] at hs ⊢
      refine ⟨by rw [siftS_len]; exact hs.1, fun k r x hr hx => ?_⟩
      obtain ⟨q, hq2, rfl⟩ := siftS_back _ _ _ _ hr
      refine List.mem_filter.2 ⟨hs.2 k q x hq2 hx, ?_⟩
      by_cases hk : (k : Int) = l0.var
      · simp only [hk, ne_eq, not_true_eq_false, decide_false, Bool.false_or]
        rw [oneB_iff]
        refine ⟨l, hl, by rw [hv, hk], ?_⟩
        have : l.var.toNat = k := by rw [hv, ← hk]; simp
        rw [this, List.getD_eq_getElem?_getD, hx] at hlv
        exact hlv
      · simp [hk]
    · exact hs
/-- DENY LEAVES JUST THE VALUES OF WHICH THE CLAUSE DOES NOT HOLD. -/
theorem deny_has (s : Sto) (c : Cla) (hc : ClaIn s c) (vals : List Int) (hs : hasS s vals = true) : hasS (denyS s c) vals = !claB c vals := by
  have hs2 := (hasS_iff s vals).1 hs
  rw [Bool.eq_iff_iff, hasS_iff]
  constructor
  · rintro ⟨_, h⟩
    cases hh : claB c vals
    · rfl
    · obtain ⟨l, hl, hlv⟩ := (claB_iff c vals).1 hh
      obtain ⟨h0, h1⟩ := hc l hl
      have hi : l.var.toNat < s.length := by omega
      have e1 : s[l.var.toNat]? = some s[l.var.toNat] := by simp [hi]
      have e2 : vals[l.var.toNat]? = some (vals[l.var.toNat]'(by omega)) := by simp [show l.var.toNat < vals.length by omega]
      have hm := h _ _ _ (siftS_get s _ _ _ e1) e2
      have hno := (List.mem_filter.1 hm).2
      have hyes : oneB c l.var.toNat (vals[l.var.toNat]'(by omega)) = true := by
        rw [oneB_iff]
        refine ⟨l, hl, by omega, ?_⟩
        rw [List.getD_eq_getElem?_getD, e2] at hlv
        exact hlv
      rw [hyes] at hno
      cases hno
  · intro hno
    refine ⟨by unfold denyS; rw [siftS_len]; exact hs2.1, fun k r x hr hx => ?_⟩
    obtain ⟨q, hq, rfl⟩ := siftS_back _ _ _ _ hr
    refine List.mem_filter.2 ⟨hs2.2 k q x hq hx, ?_⟩
    cases ho : oneB c k x
    · rfl
    · obtain ⟨l, hl, hk, hlv⟩ := (oneB_iff c k x).1 ho
      have : claB c vals = true := by
        rw [claB_iff]
        refine ⟨l, hl, ?_⟩
        have hkn : l.var.toNat = k := by rw [hk]; simp
        rw [hkn, List.getD_eq_getElem?_getD, hx]
        exact hlv
      rw [this] at hno
      cases hno
theorem checkV_unit (vs : List MVar) (s : Sto) (c : Cla) (hs : checkV vs s = 0) : checkV vs (unitS s c) = 0 := by
  unfold unitS
  split
  · exact hs
  · split
    · exact checkV_sift _ _ _ hs
    · split
      · exact checkV_sift _ _ _ hs
      · exact hs
theorem checkV_deny (vs : List MVar) (s : Sto) (c : Cla) (hs : checkV vs s = 0) : checkV vs (denyS s c) = 0 := checkV_sift _ _ _ hs

/-- One store is within another. -/
def SubS (t s : Sto) : Prop := t.length = s.length ∧ ∀ (k : Nat) r q, t[k]? = some r → s[k]? = some q → ∀ x ∈ r, x ∈ q
theorem SubS.refl (s : Sto) : SubS s s := ⟨rfl, fun k r q hr hq x hx => by rw [hr] at hq; cases hq; exact hx⟩
theorem SubS.trans {a b c : Sto} (h : SubS a b) (k : SubS b c) : SubS a c := by
  refine ⟨h.1.trans k.1, fun i r q hr hq x hx => ?_⟩
  have hi : i < b.length := by rw [← h.1]; exact (List.getElem?_eq_some_iff.1 hr).1
  have e : b[i]? = some b[i] := by simp [hi]
  exact k.2 i _ q e hq x (h.2 i r _ hr e x hx)
theorem sub_sift (s : Sto) (p : Nat → Int → Bool) : SubS (siftS s p) s := by
  refine ⟨siftS_len _ _, fun k r q hr hq x hx => ?_⟩
  obtain ⟨a, ha, rfl⟩ := siftS_back _ _ _ _ hr
  rw [hq] at ha; cases ha
  exact (List.mem_filter.1 hx).1
theorem sub_unit (s : Sto) (c : Cla) : SubS (unitS s c) s := by
  unfold unitS
  split
  · exact SubS.refl _
  · split
    · exact sub_sift _ _
    · split
      · exact sub_sift _ _
      · exact SubS.refl _
theorem sub_row {t s : Sto} (h : SubS t s) (l : MLit) : ∀ x ∈ rowOf t l, x ∈ rowOf s l := by
  intro x hx
  unfold rowOf at *
  rw [List.getD_eq_getElem?_getD] at *
  cases hq : t[l.var.toNat]? with
  | none => rw [hq] at hx; cases hx
  | some r =>
    rw [hq] at hx
    have hi : l.var.toNat < s.length := by rw [← h.1]; exact (List.getElem?_eq_some_iff.1 hq).1
    have e : s[l.var.toNat]? = some s[l.var.toNat] := by simp [hi]
    rw [e]
    exact h.2 _ _ _ hq e x hx
/-- WHAT UNIT LEAVES OF LESS IS LESS. -/
theorem unit_mono (s t : Sto) (c : Cla) (h : SubS t s) (ht : failedS t = false) (hs : failedS s = false) : SubS (unitS t c) (unitS s c) := by
  have hlive : ∀ l ∈ liveL t c, l ∈ liveL s c := fun l hl => by
    rw [mem_live] at *
    obtain ⟨h1, x, hx, h2⟩ := hl
    exact ⟨h1, x, sub_row h l x hx, h2⟩
  unfold unitS
  rw [ht, hs, if_neg (by simp), if_neg (by simp)]
  match hqs : liveL s c with
  | [] =>
    have hqt : liveL t c = [] := by
      rcases hq : liveL t c with _ | ⟨a, r⟩
      · rfl
      · have := hlive a (by rw [hq]; exact List.mem_cons_self ..)
        rw [hqs] at this; cases this
    rw [hqt]
    simp only
    refine ⟨by rw [siftS_len, siftS_len]; exact h.1, fun k r q hr hq x hx => ?_⟩
    obtain ⟨a, ha, rfl⟩ := siftS_back _ _ _ _ hr
    simp at hx
  | l0 :: rest =>
    simp only
    by_cases hall : rest.all (fun l => decide (l.var = l0.var)) = true
    · rw [if_pos hall]
      have hv : ∀ l ∈ liveL s c, l.var = l0.var := fun l hl => by
        rw [hqs] at hl
        rcases List.mem_cons.1 hl with rfl | h
        · rfl
        · simpa using List.all_eq_true.1 hall l h
      match hqt : liveL t c with
      | [] =>
        simp only
        refine ⟨by rw [siftS_len, siftS_len]; exact h.1, fun k r q hr hq x hx => ?_⟩
        obtain ⟨a, ha, rfl⟩ := siftS_back _ _ _ _ hr
        simp at hx
      | a :: r =>
        simp only
        have ha : a.var = l0.var := hv a (hlive a (by rw [hqt]; exact List.mem_cons_self ..))
        have hall2 : r.all (fun l => decide (l.var = a.var)) = true := by
          rw [List.all_eq_true]
          intro l hl
          have := hv l (hlive l (by rw [hqt]; exact List.mem_cons_of_mem _ hl))
          simp [this, ha]
        rw [if_pos hall2, ha]
        refine ⟨by rw [siftS_len, siftS_len]; exact h.1, fun k r q hr hq x hx => ?_⟩
        obtain ⟨b, hb, rfl⟩ := siftS_back _ _ _ _ hr
        obtain ⟨d, hd, rfl⟩ := siftS_back _ _ _ _ hq
        obtain ⟨h1, h2⟩ := List.mem_filter.1 hx
        exact List.mem_filter.2 ⟨h.2 k b d hb hd x h1, h2⟩
    · rw [if_neg hall]
      have := sub_unit t c
      unfold unitS at this
      rw [ht, if_neg (by simp)] at this
      exact this.trans h

theorem sift_same (s : Sto) (p : Nat → Int → Bool) (h : ∀ (k : Nat) r z, s[k]? = some r → z ∈ r → p k z = true) : siftS s p = s := by
  refine sto_ext _ _ (siftS_len _ _) fun k r q hr hq => ?_
  obtain ⟨a, ha, rfl⟩ := siftS_back _ _ _ _ hr
  rw [hq] at ha; cases ha
  exact List.filter_eq_self.2 fun z hz => h k _ z hq hz
theorem live_iff (s : Sto) (c : Cla) (l : MLit) : l ∈ liveL s c ↔ l ∈ c ∧ liveB s l = true := by
  rw [mem_live]
  unfold liveB
  rw [List.any_eq_true]
/-- What the program goes by: none can hold. -/
theorem unit_none (s : Sto) (c : Cla) (hf : failedS s = false) (h : c.any (liveB s) = false) : unitS s c = siftS s fun _ _ => false := by
  have hn : liveL s c = [] := by
    rcases hq : liveL s c with _ | ⟨a, r⟩
    · rfl
    · obtain ⟨h1, h2⟩ := (live_iff s c a).1 (by rw [hq]; exact List.mem_cons_self ..)
      have : c.any (liveB s) = true := List.any_eq_true.2 ⟨a, h1, h2⟩
      rw [h] at this; cases this
  unfold unitS
  rw [hf, if_neg (by simp), hn]
theorem unit_cases (s : Sto) (c : Cla) (hf : failedS s = false) (t : MLit) (ht : t ∈ c) (hl : liveB s t = true) :
    unitS s c = if c.any (fun l => !decide (l.var = t.var) && liveB s l) then s else siftS s (fun k z => decide ((k : Int) ≠ t.var) || oneB c k z) := by
  have hm : t ∈ liveL s c := (live_iff s c t).2 ⟨ht, hl⟩
  unfold unitS
  rw [hf, if_neg (by simp)]
  match hq : liveL s c with
  | [] => rw [hq] at hm; cases hm
  | l0 :: rest =>
    simp only
    by_cases hall : rest.all (fun l => decide (l.var = l0.var)) = true
    · have hv : ∀ l ∈ liveL s c, l.var = l0.var := fun l hl => by
        rw [hq] at hl
        rcases List.mem_cons.1 hl with rfl | h
        · rfl
        · simpa using List.all_eq_true.1 hall l h
      have hno : c.any (fun l => !decide (l.var = t.var) && liveB s l) = false := by
        rw [List.any_eq_false]
        intro l hlc hx
        simp only [Bool.and_eq_true, Bool.not_eq_true', decide_eq_false_iff_not] at hx
        exact hx.1 ((hv l ((live_iff s c l).2 ⟨hlc, hx.2⟩)).trans (hv t hm).symm)
      rw [if_pos hall, hno, hv t hm]
      rfl
    · rw [if_neg hall]
      have hyes : c.any (fun l => !decide (l.var = t.var) && liveB s l) = true := by
        have h1 : ∃ l ∈ rest, l.var ≠ l0.var := by
          apply Classical.byContradiction
          intro hn
          apply hall
          rw [List.all_eq_true]
          intro l hl
          by_cases e : l.var = l0.var
          · simp [e]
          · exact absurd ⟨l, hl, e⟩ hn
        obtain ⟨l, hl1, hne⟩ := h1
        have hlm : l ∈ liveL s c := by rw [hq]; exact List.mem_cons_of_mem _ hl1
        have h0m : l0 ∈ liveL s c := by rw [hq]; exact List.mem_cons_self ..
        rw [List.any_eq_true]
        by_cases e : l.var = t.var
        · have : l0.var ≠ t.var := fun e2 => hne (e.trans e2.symm)
          obtain ⟨a1, a2⟩ := (live_iff s c l0).1 h0m
          exact ⟨l0, a1, by simp [this, a2]⟩
        · obtain ⟨a1, a2⟩ := (live_iff s c l).1 hlm
          exact ⟨l, a1, by simp [e, a2]⟩
      rw [hyes]
      rfl
theorem unit_many (s : Sto) (c : Cla) (hf : failedS s = false) (t : MLit) (ht : t ∈ c) (hl : liveB s t = true) (h : c.any (fun l => !decide (l.var = t.var) && liveB s l) = true) : unitS s c = s := by
  rw [unit_cases s c hf t ht hl, h, if_pos rfl]
theorem unit_one (s : Sto) (c : Cla) (hf : failedS s = false) (t : MLit) (ht : t ∈ c) (hl : liveB s t = true) (h : c.any (fun l => !decide (l.var = t.var) && liveB s l) = false) :
    unitS s c = siftS s (fun k z => decide ((k : Int) ≠ t.var) || oneB c k z) := by
  rw [unit_cases s c hf t ht hl, h, if_neg (by simp)]
theorem unit_stays (s : Sto) (c : Cla) (hf : failedS s = false) (t : MLit) (ht : t ∈ c) (hl : liveB s t = true) (h : c.any (fun l => !decide (l.var = t.var) && liveB s l) = false)
    (k : Nat) (r : List Int) (hk : t.var = (k : Int)) (hr : s[k]? = some r) (hg : r.any (fun z => !oneB c k z) = false) : unitS s c = s := by
  rw [unit_one s c hf t ht hl h]
  refine sift_same _ _ fun j q z hq hz => ?_
  by_cases e : (j : Int) = t.var
  · have : j = k := by omega
    subst this
    rw [hr] at hq; cases hq
    have := (List.any_eq_false.1 hg) z hz
    simp only [Bool.not_eq_true', Bool.not_eq_false] at this
    simp [this]
  · simp [e]
end Go.Proofs.YtijohkhpigjbkaeGreatDoor
/-
  WALKS: package truth: OneOf.
-/
namespace Go.Proofs.YtijohkhpigjbkaeGreatDoor
open Go.RowKit

set_option maxHeartbeats 400000 in
set_option maxRecDepth 100000 in
theorem ofv_any (l : MLit) (x z : Int) (b1 b2 : Nat) (w : World) (h1 : w.cell? ⟨b1, 0, none⟩ = some (.int .i64 x)) (h2 : w.cell? ⟨b2, 0, none⟩ = some (.int .i64 z)) :
    Calls Tryz.prog 177 #[.agg #[.int .i64 l.var, .int .i64 l.op, .int .i64 l.n], .pointer (some ⟨b1, 0, none⟩), .pointer (some ⟨b2, 0, none⟩)] w fun e w' => e = .returned (.bool (decide (l.var = x) && litV z l)) ∧ Below w.heap.size w w' := by
  have l1 : b1 < w.heap.size := World.block_lt_of_cell? w _ h1
  have l2 : b2 < w.heap.size := World.block_lt_of_cell? w _ h2
  by_cases hq : l.var = x
  · have g0 : (l.var == x) = true := by simpa using hq
    have HN : Hid ((decide (l.var = x) && litV z l) = litV z l) := by show _ = _; rw [decide_eq_true hq]; rfl
    rw [HN.out]
    clear hq
    go_enter Tryz.func177, Tryz.ntmps177
    go_wp2_with fail
    refine (lit_true l z _).mono ?_
    rintro e w1 ⟨rfl, hb1⟩
    have hb2 : Below w.heap.size w w1 := (below_alloc _ _).trans (hb1.mono (by simp))
    clear hb1
    go_wp2
    go_ret
    exact ⟨rfl, hb2⟩
  · have g0 : (l.var == x) = false := by simpa using hq
    have HN : Hid ((decide (l.var = x) && litV z l) = false) := by show _ = _; rw [decide_eq_false hq]; rfl
    rw [HN.out]
    clear hq
    go_enter Tryz.func177, Tryz.ntmps177
    go_wp2
    go_ret
    exact ⟨rfl, below_alloc _ _⟩
theorem enters_ofv (args : Array Value) (w' : World) : Sem.run Tryz.prog (callFunc 177 args) w' = .ok (.enter 177 args) w' := by
  simp [callFunc, go_sem, Tryz.func177, Tryz.f177]

set_option maxHeartbeats 400000 in
set_option maxRecDepth 100000 in
theorem one_of (c : Cla) (k : Nat) (z : Int) (u : Value) (w : World) (hu : LArg w u c) :
    Calls Tryz.prog 119 #[u, .int .i64 k, .int .i64 z] w fun e w' => e = .returned (.bool (oneB c k z)) ∧ Below w.heap.size w w' := by
  have HUA : Hid (∀ w' : World, Below w.heap.size w w' → LArg w' u c) := fun w' h => LArg.below h hu
  obtain ⟨a1, c1, rfl, _, _⟩ := hu
  go_enter Tryz.func119, Tryz.ntmps119
  go_wp2_with fail
  refine (containsf_lits 177 _ (fun l => decide (l.var = (k : Int)) && litV z l) c _ _ (HUA.out _ ((below_alloc _ _).alloc (by simp) _)) ⟨enters_ofv, ?_⟩).mono ?_
  · intro l w' hl hb'
    refine ofv_any l k z w.heap.size (w.heap.size + 1) w' ?_ ?_
    · exact (hb'.cell (by simp; omega)).trans ((World.cell?_alloc_past _ _ _ (by simp)).trans (World.cell?_alloc_at _ _ _ 0 (by simp)))
    · exact (hb'.cell (by simp)).trans (World.cell?_alloc_at _ _ _ 0 (by simp))
  rintro e w3 ⟨rfl, hb3⟩
  have hb4 : Below w.heap.size w w3 := ((below_alloc _ _).alloc (by simp) _).trans (hb3.mono (by simp; omega))
  clear hb3
  go_wp2
  go_ret
  exact ⟨rfl, hb4⟩
end Go.Proofs.YtijohkhpigjbkaeGreatDoor
/-
  PLAIN: the greatest store that nothing changes: what all together leave, in whatever order; no program in it.
-/
namespace Go.Proofs.YtijohkhpigjbkaeGreatDoor

def clearS (s : Sto) : Sto := s.map fun _ => []
/-- If a variable has none, all have none. -/
def nrmS (s : Sto) : Sto := if failedS s then clearS s else s
theorem clear_len (s : Sto) : (clearS s).length = s.length := by simp [clearS]
theorem clear_get (s : Sto) (k : Nat) (r : List Int) (h : (clearS s)[k]? = some r) : r = [] := by
  unfold clearS at h
  rw [List.getElem?_map] at h
  obtain ⟨_, _, rfl⟩ := Option.map_eq_some_iff.1 h
  rfl
theorem nrm_len (s : Sto) : (nrmS s).length = s.length := by unfold nrmS; split <;> simp [clearS]
theorem fail_iff (s : Sto) : failedS s = true ↔ ∃ k : Nat, s[k]? = some [] := by
  unfold failedS
  rw [List.any_eq_true]
  constructor
  · rintro ⟨r, hr, h⟩
    obtain ⟨k, hk⟩ := List.mem_iff_getElem?.1 hr
    have : r = [] := List.eq_nil_of_length_eq_zero (by simpa using h)
    exact ⟨k, by rw [hk, this]⟩
  · rintro ⟨k, hk⟩
    exact ⟨[], List.mem_of_getElem? hk, rfl⟩
theorem clear_failed (s : Sto) (h : failedS s = true) : failedS (clearS s) = true := by
  obtain ⟨k, hk⟩ := (fail_iff s).1 h
  refine (fail_iff _).2 ⟨k, ?_⟩
  unfold clearS
  rw [List.getElem?_map, hk]; rfl
theorem nrm_failed (s : Sto) : failedS (nrmS s) = failedS s := by
  unfold nrmS
  cases h : failedS s
  · simp [h]
  · rw [if_pos rfl]; exact clear_failed s h
theorem clear_clear (s : Sto) : clearS (clearS s) = clearS s := by simp [clearS]
theorem nrm_nrm (s : Sto) : nrmS (nrmS s) = nrmS s := by
  cases h : failedS s
  · have : nrmS s = s := by unfold nrmS; rw [h, if_neg (by simp)]
    rw [this, this]
  · have e : nrmS s = clearS s := by unfold nrmS; rw [h, if_pos rfl]
    rw [e]
    unfold nrmS
    rw [clear_failed s h, if_pos rfl, clear_clear]
theorem sub_nrm (s : Sto) : SubS (nrmS s) s := by
  unfold nrmS
  split
  · refine ⟨clear_len s, fun k r q hr hq x hx => ?_⟩
    rw [clear_get s k r hr] at hx; cases hx
  · exact SubS.refl _
theorem sub_failed {t s : Sto} (h : SubS t s) (hs : failedS s = true) : failedS t = true := by
  obtain ⟨k, hk⟩ := (fail_iff s).1 hs
  refine (fail_iff t).2 ⟨k, ?_⟩
  have hi : k < t.length := by rw [h.1]; exact (List.getElem?_eq_some_iff.1 hk).1
  have e : t[k]? = some t[k] := by simp [hi]
  have : t[k] = [] := by
    rcases hq : t[k] with _ | ⟨a, r⟩
    · rfl
    · have := h.2 k _ _ e hk a (by rw [hq]; exact List.mem_cons_self ..)
      cases this
  rw [e, this]
theorem sub_clear {t s : Sto} (hl : t.length = s.length) : SubS (clearS t) s := by
  refine ⟨by rw [clear_len, hl], fun k r q hr hq x hx => ?_⟩
  rw [clear_get t k r hr] at hx; cases hx
theorem nrm_mono {t s : Sto} (h : SubS t s) : SubS (nrmS t) (nrmS s) := by
  cases ht : failedS t
  · have hs : failedS s = false := by
      cases hs : failedS s
      · rfl
      · rw [sub_failed h hs] at ht; cases ht
    unfold nrmS
    rw [ht, hs]
    exact h
  · have : nrmS t = clearS t := by unfold nrmS; rw [ht, if_pos rfl]
    rw [this]
    exact sub_clear (by rw [nrm_len]; exact h.1)

/-- Row by row a part. -/
def RowSub (t s : Sto) : Prop := t.length = s.length ∧ ∀ (k : Nat) r q, t[k]? = some r → s[k]? = some q → r.Sublist q
theorem RowSub.refl (s : Sto) : RowSub s s := ⟨rfl, fun k r q hr hq => by rw [hr] at hq; cases hq; exact List.Sublist.refl _⟩
theorem RowSub.trans {a b c : Sto} (h : RowSub a b) (k : RowSub b c) : RowSub a c := by
  refine ⟨h.1.trans k.1, fun i r q hr hq => ?_⟩
  have hi : i < b.length := by rw [← h.1]; exact (List.getElem?_eq_some_iff.1 hr).1
  have e : b[i]? = some b[i] := by simp [hi]
  exact (h.2 i r _ hr e).trans (k.2 i _ q e hq)
theorem row_sift (s : Sto) (p : Nat → Int → Bool) : RowSub (siftS s p) s := by
  refine ⟨siftS_len _ _, fun k r q hr hq => ?_⟩
  obtain ⟨a, ha, rfl⟩ := siftS_back _ _ _ _ hr
  rw [hq] at ha; cases ha
  exact List.filter_sublist
theorem row_unit (s : Sto) (c : Cla) : RowSub (unitS s c) s := by
  unfold unitS
  split
  · exact RowSub.refl _
  · split
    · exact row_sift _ _
    · split
      · exact row_sift _ _
      · exact RowSub.refl _
def sizeS (s : Sto) : Nat := (s.map List.length).sum
theorem row_size : ∀ (t s : Sto), RowSub t s → sizeS t ≤ sizeS s ∧ (sizeS t = sizeS s → t = s)
  | [], [], _ => ⟨Nat.le_refl _, fun _ => rfl⟩
  | [], b :: s, h => by have := h.1; simp at this
  | a :: t, [], h => by have := h.1; simp at this
  | a :: t, b :: s, h => by
    have h0 := h.2 0 a b rfl rfl
    have ih := row_size t s ⟨by simpa using h.1, fun k r q hr hq => h.2 (k + 1) r q (by simpa using hr) (by simpa using hq)⟩
    have hl := h0.length_le
    have e1 : sizeS (a :: t) = a.length + sizeS t := by simp [sizeS]
    have e2 : sizeS (b :: s) = b.length + sizeS s := by simp [sizeS]
    refine ⟨by omega, fun he => ?_⟩
    have ha : a = b := h0.eq_of_length (by omega)
    have ht : t = s := ih.2 (by omega)
    rw [ha, ht]
theorem clear_sift (s : Sto) : clearS s = siftS s fun _ _ => false := by
  refine sto_ext _ _ (by rw [clear_len, siftS_len]) fun k r q hr hq => ?_
  obtain ⟨a, ha, rfl⟩ := siftS_back _ _ _ _ hq
  rw [clear_get s k r hr]
  simp
/-- A step: it takes away, of less it leaves less, and leaves alone what has failed. -/
structure StepOk (f : Sto → Sto) : Prop where
  dec : ∀ s, SubS (f s) s
  row : ∀ s, RowSub (f s) s
  mono : ∀ s t, SubS t s → failedS t = false → failedS s = false → SubS (f t) (f s)
  stay : ∀ s, failedS s = true → f s = s
theorem step_nrm {f : Sto → Sto} (hf : StepOk f) {t s : Sto} (h : SubS t s) : SubS (nrmS (f t)) (nrmS (f s)) := by
  cases ht : failedS t
  · cases hs : failedS s
    · exact nrm_mono (hf.mono s t h ht hs)
    · rw [sub_failed h hs] at ht; cases ht
  · rw [hf.stay t ht]
    have : nrmS t = clearS t := by unfold nrmS; rw [ht, if_pos rfl]
    rw [this]
    exact sub_clear (by rw [nrm_len, (hf.dec s).1]; exact h.1)

/-- What nothing takes away from, below s. -/
def Holdout (fs : List (Sto → Sto)) (s u : Sto) : Prop := SubS u (nrmS s) ∧ nrmS u = u ∧ ∀ f ∈ fs, SubS u (nrmS (f u))
/-- What is on its way to the greatest one. -/
def OnWay (fs : List (Sto → Sto)) (s t : Sto) : Prop := SubS t s ∧ ∀ u, Holdout fs s u → SubS u t
/-- The greatest one. -/
def Greatest (fs : List (Sto → Sto)) (s t : Sto) : Prop := Holdout fs s t ∧ ∀ u, Holdout fs s u → SubS u t

theorem onway_begin (fs : List (Sto → Sto)) (s : Sto) : OnWay fs s s := ⟨SubS.refl _, fun _ hu => hu.1.trans (sub_nrm s)⟩
/-- .. a step's answer itself, where no variable is asked yet whether it has none. -/
theorem onway_raw {fs : List (Sto → Sto)} {s t : Sto} (h : OnWay fs s t) (f : Sto → Sto) (hf : f ∈ fs) (hok : StepOk f) : OnWay fs s (f t) :=
  ⟨(hok.dec t).trans h.1, fun u hu => ((hu.2.2 f hf).trans (step_nrm hok (h.2 u hu))).trans (sub_nrm _)⟩
theorem onway_clear {fs : List (Sto → Sto)} {s t : Sto} (h : OnWay fs s t) (hf : failedS t = true) (hok : ∀ f ∈ fs, StepOk f) : Greatest fs s (clearS t) := by
  have hc := clear_failed t hf
  have hn : nrmS (clearS t) = clearS t := by unfold nrmS; rw [hc, if_pos rfl, clear_clear]
  refine ⟨⟨sub_clear (by rw [nrm_len]; exact h.1.1), hn, fun f hf2 => ?_⟩, fun u hu => ?_⟩
  · rw [(hok f hf2).stay _ hc, hn]; exact SubS.refl _
  · have h1 := h.2 u hu
    have h2 := sub_failed h1 hf
    have h3 : u = clearS u := by
      have := hu.2.1
      unfold nrmS at this
      rw [h2, if_pos rfl] at this
      exact this.symm
    rw [h3]
    exact sub_clear (by rw [clear_len]; exact h1.1)
theorem onway_end {fs : List (Sto → Sto)} {s t : Sto} (h : OnWay fs s t) (hf : failedS t = false) (hs : ∀ f ∈ fs, f t = t) : Greatest fs s t := by
  have hn : nrmS t = t := by unfold nrmS; rw [hf, if_neg (by simp)]
  have hsf : failedS s = false := by
    cases hq : failedS s
    · rfl
    · rw [sub_failed h.1 hq] at hf; cases hf
  have hsn : nrmS s = s := by unfold nrmS; rw [hsf, if_neg (by simp)]
  exact ⟨⟨by rw [hsn]; exact h.1, hn, fun f hf2 => by rw [hs f hf2, hn]; exact SubS.refl _⟩, h.2⟩
/-- One after the other. -/
def passS (fs : List (Sto → Sto)) (t : Sto) : Sto := fs.foldl (fun t f => f t) t
theorem pass_row : ∀ (fs : List (Sto → Sto)) (t : Sto), (∀ f ∈ fs, StepOk f) → RowSub (passS fs t) t
  | [], t, _ => RowSub.refl t
  | f :: fs, t, h => (pass_row fs (f t) fun g hg => h g (List.mem_cons_of_mem _ hg)).trans ((h f (List.mem_cons_self ..)).row t)
theorem pass_same : ∀ (fs : List (Sto → Sto)) (t : Sto), (∀ f ∈ fs, StepOk f) → sizeS (passS fs t) = sizeS t → ∀ f ∈ fs, f t = t
  | [], t, _, _ => fun f hf => by cases hf
  | f :: fs, t, h, he => by
    have h1 := row_size _ _ (pass_row fs (f t) fun g hg => h g (List.mem_cons_of_mem _ hg))
    have h2 := row_size _ _ ((h f (List.mem_cons_self ..)).row t)
    have e0 : passS (f :: fs) t = passS fs (f t) := rfl
    rw [e0] at he
    have e1 : f t = t := h2.2 (by omega)
    rw [e1] at he
    intro g hg
    rcases List.mem_cons.1 hg with rfl | hg
    · exact e1
    · exact pass_same fs t (fun g hg => h g (List.mem_cons_of_mem _ hg)) he g hg
theorem onway_pass {gs : List (Sto → Sto)} {s : Sto} : ∀ (fs : List (Sto → Sto)) (t : Sto), (∀ f ∈ fs, f ∈ gs ∧ StepOk f) → OnWay gs s t → OnWay gs s (passS fs t)
  | [], _, _, h => h
  | f :: fs, t, h, hw => onway_pass fs (f t) (fun g hg => h g (List.mem_cons_of_mem _ hg)) (onway_raw hw f (h f (List.mem_cons_self ..)).1 (h f (List.mem_cons_self ..)).2)
theorem pass_next (fs : List (Sto → Sto)) (k : Nat) (f : Sto → Sto) (t : Sto) (h : fs[k]? = some f) : passS (fs.take (k + 1)) t = f (passS (fs.take k) t) := by
  unfold passS
  rw [List.take_add_one, h, List.foldl_append]; rfl
theorem till_end {fs : List (Sto → Sto)} {s t : Sto} (hok : ∀ f ∈ fs, StepOk f) (h : OnWay fs s t) (hs : ∀ f ∈ fs, f t = t) : Greatest fs s (nrmS t) := by
  cases hf : failedS t
  · have : nrmS t = t := by unfold nrmS; rw [hf, if_neg (by simp)]
    rw [this]
    exact onway_end h hf hs
  · have : nrmS t = clearS t := by unfold nrmS; rw [hf, if_pos rfl]
    rw [this]
    exact onway_clear h hf hok

theorem rows_eq : ∀ (a b : List Int), a.Pairwise (· < ·) → b.Pairwise (· < ·) → (∀ x, x ∈ a ↔ x ∈ b) → a = b
  | [], [], _, _, _ => rfl
  | [], y :: b, _, _, h => by have := (h y).2 (List.mem_cons_self ..); cases this
  | x :: a, [], _, _, h => by have := (h x).1 (List.mem_cons_self ..); cases this
  | x :: a, y :: b, ha, hb, h => by
    obtain ⟨h1, h2⟩ := List.pairwise_cons.1 ha
    obtain ⟨k1, k2⟩ := List.pairwise_cons.1 hb
    have hxy : x = y := by
      rcases List.mem_cons.1 ((h x).1 (List.mem_cons_self ..)) with e | e
      · exact e
      · rcases List.mem_cons.1 ((h y).2 (List.mem_cons_self ..)) with f | f
        · exact f.symm
        · have := k1 x e; have := h1 y f; omega
    subst hxy
    congr 1
    refine rows_eq a b h2 k2 fun z => ?_
    constructor
    · intro hz
      rcases List.mem_cons.1 ((h z).1 (List.mem_cons_of_mem _ hz)) with e | e
      · have := h1 z hz; omega
      · exact e
    · intro hz
      rcases List.mem_cons.1 ((h z).2 (List.mem_cons_of_mem _ hz)) with e | e
      · have := k1 z hz; omega
      · exact e
/-- Two right stores that are within one another are the same. -/
theorem sub_antisymm {a b : Sto} (ha : a.all risesB = true) (hb : b.all risesB = true) (h : SubS a b) (k : SubS b a) : a = b := by
  refine sto_ext a b h.1 fun i r q hr hq => ?_
  refine rows_eq r q ((rises_pair _).1 (List.all_eq_true.1 ha _ (List.mem_of_getElem? hr))) ((rises_pair _).1 (List.all_eq_true.1 hb _ (List.mem_of_getElem? hq))) fun x => ⟨h.2 i r q hr hq x, k.2 i q r hq hr x⟩
theorem sub_within {a b : Sto} (h : SubS a b) : withinS a b = true := by
  unfold withinS
  rw [all_zip]
  intro i r q hr hq
  exact (withinR_iff _ _).2 (h.2 i r q hr hq)
theorem within_sub {a b : Sto} (hl : a.length = b.length) (h : withinS a b = true) : SubS a b := by
  unfold withinS at h
  rw [all_zip] at h
  exact ⟨hl, fun i r q hr hq => (withinR_iff _ _).1 (h i r q hr hq)⟩

/-- DONE TWICE IT IS DONE ONCE. -/
theorem great_again {fs : List (Sto → Sto)} {s t t2 : Sto} (h : Greatest fs s t) (h2 : Greatest fs t t2) (ht : t.all risesB = true) (ht2 : t2.all risesB = true) : t2 = t := by
  have hn : nrmS t = t := h.1.2.1
  refine sub_antisymm ht2 ht ?_ (h2.2 t ⟨by rw [hn]; exact SubS.refl _, hn, h.1.2.2⟩)
  have := h2.1.1
  rwa [hn] at this
/-- ALL TOGETHER LEAVE NO MORE THAN A PART DOES. -/
theorem great_part {fs gs : List (Sto → Sto)} {s t a : Sto} (h : Greatest fs s t) (k : Greatest gs s a) (hsub : ∀ g ∈ gs, g ∈ fs) : SubS t a :=
  k.2 t ⟨h.1.1, h.1.2.1, fun g hg => h.1.2.2 g (hsub g hg)⟩
/-- WHAT IS WITHIN IS WITHIN. -/
theorem great_less {fs : List (Sto → Sto)} {s less t k : Sto} (h : Greatest fs s t) (h2 : Greatest fs less k) (hl : SubS less s) : SubS k t :=
  h.2 k ⟨h2.1.1.trans (nrm_mono hl), h2.1.2.1, h2.1.2.2⟩
/-- NO VALUES THAT EVERY STEP KEEPS ARE LOST. -/
theorem great_keeps {fs : List (Sto → Sto)} {s t : Sto} (h : Greatest fs s t) (vals : List Int) (hs : hasS s vals = true) (hk : ∀ f ∈ fs, ∀ u : Sto, u.length = s.length → hasS u vals = true → hasS (f u) vals = true) : hasS t vals = true := by
  let u : Sto := vals.map fun x => [x]
  have hs2 := (hasS_iff s vals).1 hs
  have hul : u.length = s.length := by simp [u, hs2.1]
  have huget : ∀ (k : Nat) r, u[k]? = some r → ∃ x, vals[k]? = some x ∧ r = [x] := by
    intro k r hr
    simp only [u, List.getElem?_map] at hr
    obtain ⟨x, hx, rfl⟩ := Option.map_eq_some_iff.1 hr
    exact ⟨x, hx, rfl⟩
  have huh : hasS u vals = true := by
    rw [hasS_iff]
    refine ⟨by simp [u], fun k r x hr hx => ?_⟩
    obtain ⟨y, hy, rfl⟩ := huget k r hr
    rw [hx] at hy; cases hy
    exact List.mem_singleton.2 rfl
  have sub_of : ∀ a : Sto, a.length = s.length → hasS a vals = true → SubS u a := by
    intro a hal ha
    rw [hasS_iff] at ha
    refine ⟨by rw [hul, hal], fun k r q hr hq x hx => ?_⟩
    obtain ⟨y, hy, rfl⟩ := huget k r hr
    rw [List.mem_singleton.1 hx]
    exact ha.2 k q y hq hy
  have nrm_of : ∀ a : Sto, hasS a vals = true → nrmS a = a := by
    intro a ha
    unfold nrmS
    rw [has_not_failed a vals ha, if_neg (by simp)]
  have hu : Holdout fs s u := by
    refine ⟨by rw [nrm_of s hs]; exact sub_of s rfl hs, nrm_of u huh, fun f hf => ?_⟩
    have hfu := hk f hf u hul huh
    rw [nrm_of (f u) hfu]
    have hl := ((hasS_iff _ _).1 hfu).1
    exact sub_of (f u) (by rw [hl]; exact hs2.1.symm) hfu
  have hut := h.2 u hu
  rw [hasS_iff]
  refine ⟨by rw [← hut.1, hul]; exact hs2.1, fun k r x hr hx => ?_⟩
  have hk2 : u[k]? = some [x] := by simp only [u, List.getElem?_map, hx]; rfl
  exact hut.2 k _ r hk2 hr x (List.mem_singleton.2 rfl)
theorem unit_step (c : Cla) : StepOk fun s => unitS s c where
  dec s := sub_unit s c
  row s := row_unit s c
  mono s t h ht hs := unit_mono s t c h ht hs
  stay s h := by unfold unitS; rw [h, if_pos rfl]
theorem great_unique {fs : List (Sto → Sto)} {s t t2 : Sto} (h : Greatest fs s t) (h2 : Greatest fs s t2) (ht : t.all risesB = true) (ht2 : t2.all risesB = true) : t2 = t :=
  sub_antisymm ht2 ht (h.2 _ h2.1) (h2.2 _ h.1)
theorem checkV_nrm (vs : List MVar) (s : Sto) (h : checkV vs s = 0) : checkV vs (nrmS s) = 0 := by
  unfold nrmS
  split
  · rw [clear_sift]; exact checkV_sift _ _ _ h
  · exact h
theorem checkV_pass (vs : List MVar) : ∀ (fs : List (Sto → Sto)) (t : Sto), (∀ f ∈ fs, ∀ u, checkV vs u = 0 → checkV vs (f u) = 0) → checkV vs t = 0 → checkV vs (passS fs t) = 0
  | [], _, _, h => h
  | f :: fs, t, h, ht => checkV_pass vs fs (f t) (fun g hg => h g (List.mem_cons_of_mem _ hg)) (h f (List.mem_cons_self ..) t ht)
end Go.Proofs.YtijohkhpigjbkaeGreatDoor
/-
  WALK: package truth: Con.
-/
namespace Go.Proofs.YtijohkhpigjbkaeGreatDoor
open Go.RowKit

theorem con_facts (n : Int) (c : MCon) (h : conE n c = 0) : (1 ≤ c.kind ∧ c.kind ≤ 10) ∧ manyB c = false ∧ formB c = true ∧ varsB c n = true ∧ constsB c = true ∧ litsE c.lits = 0 := by
  unfold conE at h
  split at h
  · rename_i hk
    cases h1 : manyB c
    · cases h2 : formB c
      · rw [h1, h2] at h; simp at h
      · cases h3 : varsB c n
        · rw [h1, h2, h3] at h; simp at h
        · cases h4 : constsB c
          · rw [h1, h2, h3, h4] at h; simp at h
          · rw [h1, h2, h3, h4] at h; simp at h
            exact ⟨hk, rfl, rfl, rfl, rfl, h⟩
    · rw [h1] at h; simp at h
  · cases h

theorem ownV_bound (vars vals : List Int) (h : ∀ x ∈ vals, -50 ≤ x ∧ x ≤ 50) (x : Int) (hx : x ∈ ownV vars vals) : -50 ≤ x ∧ x ≤ 50 := by
  obtain ⟨v, _, rfl⟩ := List.mem_map.1 hx
  unfold valAt
  rw [List.getD_eq_getElem?_getD]
  cases hq : vals[v.toNat]? with
  | none => simp
  | some y => exact h y (List.mem_of_getElem? hq)
theorem ownV_len (vars vals : List Int) : (ownV vars vals).length = vars.length := by simp [ownV]
theorem vars_in (c : MCon) (n : Int) (h : varsB c n = true) : (∀ x ∈ c.vars, 0 ≤ x ∧ x < n) ∧ ∀ l ∈ c.lits, 0 ≤ l.var ∧ l.var < n := by
  unfold varsB at h
  rw [Bool.and_eq_true, List.all_eq_true, List.all_eq_true] at h
  exact ⟨fun x hx => by simpa [isVarB] using h.1 x hx, fun l hl => by simpa [isVarB] using h.2 l hl⟩
theorem consts_in (c : MCon) (h : constsB c = true) : ∀ x ∈ c.consts, -1000 ≤ x ∧ x ≤ 1000 := by
  unfold constsB at h
  rw [Bool.and_eq_true, List.all_eq_true] at h
  exact fun x hx => by simpa [isConstB, inB] using h.1 x hx
theorem many_not (c : MCon) (h : manyB c = false) : c.vars.length ≤ 4 ∧ c.lits.length ≤ 4 ∧ c.consts.length ≤ 8 ∧ c.rows.length ≤ 20 := by
  unfold manyB at h
  simp at h
  omega

set_option maxHeartbeats 3200000 in
set_option maxRecDepth 100000 in
theorem holds_any (c : MCon) (vals : List Int) (vv vc vr vl v : Value) (w : World) (hk : KArg w vv vc vr vl c) (hv : IArg w v vals) (hc : conE vals.length c = 0) (hb : ∀ x ∈ vals, -50 ≤ x ∧ x ≤ 50) :
    Calls Tryz.prog 57 #[conV vv vc vr vl c, v] w fun e w' => e = .returned (.bool (holdsC c vals)) ∧ Below w.heap.size w w' := by
  obtain ⟨⟨hk1, hk10⟩, hmany, hform, hvars, hconsts, hlits⟩ := con_facts _ _ hc
  obtain ⟨hn4, hl4, hc8, _⟩ := many_not c hmany
  have HVI : Hid (∀ x ∈ c.vars, 0 ≤ x ∧ x < (vals.length : Int)) := (vars_in c _ hvars).1
  have HLI : Hid (∀ l ∈ c.lits, 0 ≤ l.var ∧ l.var < (vals.length : Int)) := (vars_in c _ hvars).2
  have HCI : Hid (∀ x ∈ c.consts, -1000 ≤ x ∧ x ≤ 1000) := consts_in c hconsts
  have HOB : Hid (∀ x ∈ ownV c.vars vals, -50 ≤ x ∧ x ≤ 50) := ownV_bound c.vars vals hb
  have HKA : Hid (∀ w' : World, Below w.heap.size w w' → KArg w' vv vc vr vl c) := fun w' h => KArg.below h hk
  have HVA : Hid (∀ w' : World, Below w.heap.size w w' → IArg w' v vals) := fun w' h => IArg.below h hv
  have HFO : Hid (formB c = true) := hform
  obtain ⟨⟨a1, c1, rfl, _, _⟩, ⟨a2, c2, rfl, hm2, _⟩, ⟨a3, c3, rfl, _, _⟩, ⟨a4, c4, rfl, hm4, _⟩⟩ := hk
  obtain ⟨a5, c5, rfl, _, _⟩ := hv
  unfold maxLen at hm2 hm4
  obtain ⟨hm21, hm2⟩ := hm2
  obtain ⟨hm41, hm4⟩ := hm4
  obtain ⟨R, hR⟩ : ∃ R, holdsC c vals = R := ⟨_, rfl⟩
  rw [hR]
  have HR : Hid (holdsC c vals = R) := hR
  unfold conV
  clear hR hc hb hmany hform hvars hconsts hlits
  go_enter Tryz.func57, Tryz.ntmps57
  go_wp2_with fail
  refine (values_of c.vars vals _ _ _ ?_ ?_ hn4 HVI.out).mono ?_
  · exact (HKA.out _ (below_alloc _ _)).1
  · exact HVA.out _ (below_alloc _ _)
  rintro e w1 ⟨x, rfl, hx, hb1⟩
  have d0 : w1.cell? ⟨w.heap.size, 0, none⟩ = some (.int .i64 c.kind) := (hb1.cell (by simp)).trans (by simp)
  have d2 : w1.cell? ⟨w.heap.size, 2, none⟩ = some (.slice a2 c.consts.length c2) := (hb1.cell (by simp)).trans (by simp)
  have d3 : w1.cell? ⟨w.heap.size, 3, none⟩ = some (.int .i64 c.n) := (hb1.cell (by simp)).trans (by simp)
  have d4 : w1.cell? ⟨w.heap.size, 4, none⟩ = some (.slice a3 c.rows.length c3) := (hb1.cell (by simp)).trans (by simp)
  have d5 : w1.cell? ⟨w.heap.size, 5, none⟩ = some (.slice a4 c.lits.length c4) := (hb1.cell (by simp)).trans (by simp)
  have hs1 : w.heap.size + 1 ≤ w1.heap.size := by simpa using hb1.size
  have HB1 : Hid (Below w.heap.size w w1) := (below_alloc _ _).trans (hb1.mono (by simp))
  have HX : Hid (∀ w' : World, Below w1.heap.size w1 w' → IArg w' x (ownV c.vars vals)) := fun w' h => IArg.below h hx
  obtain ⟨own, HOWN⟩ : ∃ own, Hid (ownV c.vars vals = own) := ⟨_, rfl⟩
  have HOL : Hid (own.length = c.vars.length) := by rw [← HOWN.out]; exact ownV_len _ _
  rw [HOWN.out] at HX HOB hx
  obtain ⟨a6, c6, rfl, hm6, h6⟩ := hx
  unfold maxLen at hm6
  obtain ⟨hm61, hm6⟩ := hm6
  have H6 : Hid (∀ (i : Nat) (z : Int), own[i]? = some z → ∃ b off, a6 = some ⟨b, off, none⟩ ∧ b < w1.heap.size ∧ w1.cell? ⟨b, off + i, none⟩ = some (.int .i64 z)) := h6
  clear hb1 h6
  have hl0 : w.heap.size < w1.heap.size := by omega
  have HB2 : Hid (Below w.heap.size w (w1.alloc (.cells #[.slice a6 own.length c6] 39))) := HB1.out.trans ((below_alloc _ _).mono (by omega))
  obtain ⟨kd, hkd⟩ : ∃ kd, c.kind = kd := ⟨_, rfl⟩
  have HKD : Hid (c.kind = kd) := hkd
  rw [hkd] at d0 hk1 hk10
  clear hkd hs1
  have HN : Hid (R = true ∨ R = false) := by cases R <;> simp [Hid]
  have hcases : kd = 1 ∨ kd = 2 ∨ kd = 3 ∨ kd = 4 ∨ kd = 5 ∨ kd = 6 ∨ kd = 7 ∨ kd = 8 ∨ kd = 9 ∨ kd = 10 := by omega
  clear hk1 hk10
  rcases hcases with rfl | rfl | rfl | rfl | rfl | rfl | rfl | rfl | rfl | rfl
  · -- kind 1
    have HL : Hid (c.consts.length = own.length) := by
      have h := HFO.out
      unfold formB at h
      rw [HKD.out] at h
      simp at h
      exact h.2.1.trans HOL.out.symm
    have HE : Hid (R = decide (sumV c.consts own ≤ c.n)) := by rw [← HR.out, ← HOWN.out]; unfold holdsC; rw [HKD.out]; rfl
    have HS : Hid (∀ n, Calls Tryz.prog 103 #[.slice a2 c.consts.length c2, .slice a6 own.length c6] ((w1.alloc (.cells #[.slice a6 own.length c6] 39)).drewN n) fun e w' => e = .returned (.int .i64 (sumV c.consts own)) ∧ ∃ k, w' = (w1.alloc (.cells #[.slice a6 own.length c6] 39)).drewN k) := by
      intro n
      refine (sum_any c.consts own _ _ _ ((HKA.out _ (below_drewN HB2.out n)).2.1) (HX.out _ (below_drewN (below_alloc _ _) n)) HL.out hc8 HCI.out HOB.out).mono ?_
      rintro e w' ⟨rfl, rfl⟩
      exact ⟨rfl, n, rfl⟩
    go_wp2
    go_quiet ((go_at_call 103; exact HS.out _))
    go_wp2
    go_ret
    exact ⟨ret_bool HE.out.symm, below_drewN HB2.out _⟩
  · -- kind 2
    have HL : Hid (c.consts.length = own.length) := by
      have h := HFO.out
      unfold formB at h
      rw [HKD.out] at h
      simp at h
      exact h.2.1.trans HOL.out.symm
    have HE : Hid (R = (sumV c.consts own == c.n)) := by rw [← HR.out, ← HOWN.out]; unfold holdsC; rw [HKD.out]; rfl
    have HS : Hid (∀ n, Calls Tryz.prog 103 #[.slice a2 c.consts.length c2, .slice a6 own.length c6] ((w1.alloc (.cells #[.slice a6 own.length c6] 39)).drewN n) fun e w' => e = .returned (.int .i64 (sumV c.consts own)) ∧ ∃ k, w' = (w1.alloc (.cells #[.slice a6 own.length c6] 39)).drewN k) := by
      intro n
      refine (sum_any c.consts own _ _ _ ((HKA.out _ (below_drewN HB2.out n)).2.1) (HX.out _ (below_drewN (below_alloc _ _) n)) HL.out hc8 HCI.out HOB.out).mono ?_
      rintro e w' ⟨rfl, rfl⟩
      exact ⟨rfl, n, rfl⟩
    go_wp2
    go_quiet ((go_at_call 103; exact HS.out _))
    go_wp2
    go_ret
    exact ⟨ret_bool HE.out.symm, below_drewN HB2.out _⟩
  · -- kind 3
    have HL : Hid (c.consts.length = own.length) := by
      have h := HFO.out
      unfold formB at h
      rw [HKD.out] at h
      simp at h
      exact h.2.1.trans HOL.out.symm
    have HE : Hid (R = (sumV c.consts own != c.n)) := by rw [← HR.out, ← HOWN.out]; unfold holdsC; rw [HKD.out]; rfl
    have HS : Hid (∀ n, Calls Tryz.prog 103 #[.slice a2 c.consts.length c2, .slice a6 own.length c6] ((w1.alloc (.cells #[.slice a6 own.length c6] 39)).drewN n) fun e w' => e = .returned (.int .i64 (sumV c.consts own)) ∧ ∃ k, w' = (w1.alloc (.cells #[.slice a6 own.length c6] 39)).drewN k) := by
      intro n
      refine (sum_any c.consts own _ _ _ ((HKA.out _ (below_drewN HB2.out n)).2.1) (HX.out _ (below_drewN (below_alloc _ _) n)) HL.out hc8 HCI.out HOB.out).mono ?_
      rintro e w' ⟨rfl, rfl⟩
      exact ⟨rfl, n, rfl⟩
    go_wp2
    go_quiet ((go_at_call 103; exact HS.out _))
    go_wp2
    go_ret
    exact ⟨ret_bool HE.out.symm, below_drewN HB2.out _⟩
  · -- kind 4
    have HE : Hid (R = decide own.Nodup) := by rw [← HR.out, ← HOWN.out]; unfold holdsC; rw [HKD.out]; rfl
    have ho4 : own.length ≤ 4 := by have := HOL.out; omega
    go_wp2_with fail
    refine (differ_any own _ _ (HX.out _ (below_alloc _ _)) ho4 HOB.out).mono ?_
    rintro e w3 ⟨rfl, hb3⟩
    have hb4 : Below w.heap.size w w3 := HB2.out.trans (hb3.mono (by simp; omega))
    clear hb3
    go_wp2
    go_ret
    exact ⟨ret_bool HE.out.symm, hb4⟩
  · -- kind 5
    have HL : Hid (own.length = 2) := by
      have h := HFO.out
      unfold formB at h
      rw [HKD.out] at h
      simp at h
      exact HOL.out.trans h.2.1
    obtain ⟨p, q, rfl⟩ : ∃ p q, own = [p, q] := by
      match own, HL.out with
      | [p, q], _ => exact ⟨p, q, rfl⟩
    obtain ⟨b, off, rfl, hb, e0⟩ := H6.out 0 p rfl
    obtain ⟨b', off', hab, hb', e1⟩ := H6.out 1 q rfl
    cases hab
    rw [Nat.add_zero] at e0
    have HE : Hid (R = (decide (0 ≤ p) && (decide (p < c.consts.length) && (c.consts.getD p.toNat 0 == q)))) := by rw [← HR.out]; unfold holdsC; rw [HKD.out, HOWN.out]; rfl
    by_cases q1 : 0 ≤ p
    · obtain ⟨j, rfl⟩ : ∃ j : Nat, p = (j : Int) := ⟨p.toNat, by omega⟩
      by_cases q2 : j < c.consts.length
      · obtain ⟨y, hy⟩ : ∃ y, c.consts[j]? = some y := ⟨c.consts[j], by simp [q2]⟩
        obtain ⟨a2', c2', hva, _, hrc⟩ := (HKA.out _ HB1.out).2.1
        obtain ⟨b2, off2, hax, hb2, e2⟩ := hrc j y hy
        have ha2 : a2 = some ⟨b2, off2, none⟩ := by cases hva; exact hax
        subst ha2
        have HE2 : Hid (R = (y == q)) := by
          show _ = _
          rw [HE.out, decide_eq_true q1, decide_eq_true (show (j : Int) < c.consts.length by omega), Int.toNat_natCast, List.getD_eq_getElem?_getD, hy]; rfl
        have q2' : (j : Int) < (c.consts.length : Int) := by omega
        clear hy hva hrc hax
        go_wp2
        go_quiet (fail)
        go_wp2
        go_ret
        exact ⟨ret_bool HE2.out.symm, below_drewN HB2.out _⟩
      · have HE2 : Hid (R = false) := by
          show _ = _
          rw [HE.out, decide_eq_true q1, decide_eq_false (show ¬ (j : Int) < c.consts.length by omega)]; rfl
        have q3 : decide (j < c.consts.length) = false := decide_eq_false q2
        have q4 : decide ((j : Int) < (c.consts.length : Int)) = false := decide_eq_false (by omega)
        clear q2
        go_wp2
        go_quiet (fail)
        go_wp2
        go_ret
        exact ⟨ret_bool HE2.out.symm, below_drewN HB2.out _⟩
    · have HE2 : Hid (R = false) := by
        show _ = _
        rw [HE.out, decide_eq_false q1]; rfl
      have q3 : decide (0 ≤ p) = false := decide_eq_false q1
      go_wp2
      go_quiet (fail)
      go_wp2
      go_ret
      exact ⟨ret_bool HE2.out.symm, below_drewN HB2.out _⟩
  · -- kind 6
    have HE : Hid (R = c.rows.any fun r => decide (r = own)) := by rw [← HR.out, ← HOWN.out]; unfold holdsC; rw [HKD.out]; rfl
    go_wp2_with fail
    refine (containsf_rows 106 _ (fun r => decide (r = own)) c.rows _ _ ((HKA.out _ HB2.out).2.2.1) ⟨enters_row, ?_⟩).mono ?_
    · intro r x w' hb' hx'
      exact row_same own r _ x w1.heap.size w' (HX.out _ ((below_alloc _ _).trans (hb'.mono (by simp)))) hx' ((hb'.cell (by simp)).trans (by simp))
    rintro e w3 ⟨rfl, hb3⟩
    have hb4 : Below w.heap.size w w3 := HB2.out.trans (hb3.mono (by simp; omega))
    clear hb3
    go_wp2
    go_ret
    exact ⟨ret_bool HE.out.symm, hb4⟩
  · -- kind 7
    have HL : Hid (own.length = 3) := by
      have h := HFO.out
      unfold formB at h
      rw [HKD.out] at h
      simp at h
      exact HOL.out.trans h.2.1
    obtain ⟨p, q, r, rfl⟩ : ∃ p q r, own = [p, q, r] := by
      match own, HL.out with
      | [p, q, r], _ => exact ⟨p, q, r, rfl⟩
    obtain ⟨b, off, rfl, hb, e0⟩ := H6.out 0 p rfl
    obtain ⟨b', off', hab, hb', e1⟩ := H6.out 1 q rfl
    cases hab
    obtain ⟨b', off', hab, hb', e2⟩ := H6.out 2 r rfl
    cases hab
    rw [Nat.add_zero] at e0
    have HE : Hid (R = (p * q == r)) := by rw [← HR.out]; unfold holdsC; rw [HKD.out, HOWN.out]; rfl
    obtain ⟨g1, g2⟩ := mul_bound p q (by have := HOB.out p (by simp); omega) (by have := HOB.out p (by simp); omega) (HOB.out q (by simp)).1 (HOB.out q (by simp)).2
    go_wp2
    go_quiet (fail)
    go_wp2
    go_ret
    exact ⟨ret_bool HE.out.symm, below_drewN HB2.out _⟩
  · -- kind 8
    have HL : Hid (2 ≤ own.length) := by
      have h := HFO.out
      unfold formB at h
      rw [HKD.out] at h
      simp at h
      have := HOL.out
      show 2 ≤ _
      omega
    obtain ⟨p, q, r, rfl⟩ : ∃ p q r, own = p :: q :: r := by
      match own, HL.out with
      | p :: q :: r, _ => exact ⟨p, q, r, rfl⟩
    obtain ⟨b, off, rfl, hb, e0⟩ := H6.out 0 p rfl
    rw [Nat.add_zero] at e0
    have HE : Hid (R = (p == r.foldl max q)) := by rw [← HR.out]; unfold holdsC; rw [HKD.out, HOWN.out]; rfl
    obtain ⟨n, hn⟩ : ∃ n, (p :: q :: r).length = n := ⟨_, rfl⟩
    have hn2 : 2 ≤ n := by rw [← hn]; simp
    have HT : Hid (IArg w1 (.slice (some ⟨b, off + 1, none⟩) (n - 1) (c6 - 1)) (q :: r)) := by
      refine ⟨_, _, by rw [← hn]; rfl, ⟨by rw [← hn] at *; simp at *; omega, by unfold maxLen; omega⟩, fun i z hz => ?_⟩
      obtain ⟨b', off', hab, hb', e1⟩ := H6.out (i + 1) z (by simpa using hz)
      cases hab
      exact ⟨b, off + 1, rfl, hb, by rw [Nat.add_assoc, Nat.add_comm 1 i]; exact e1⟩
    rw [hn] at hm61 HB2 ⊢
    clear hn
    go_wp2
    go_quiet ((go_at_call 108; exact (max_any q r _ _ (IArg.below (below_drewN (below_alloc _ _) _) HT.out)).mono (fun _ _ h => ⟨h.1, _, h.2⟩)))
    go_wp2
    go_ret
    exact ⟨ret_bool HE.out.symm, below_drewN HB2.out _⟩
  · -- kind 9
    have HE : Hid (R = c.lits.any (litB vals)) := by rw [← HR.out]; unfold holdsC; rw [HKD.out]; rfl
    go_wp2_with fail
    refine (clause_true c.lits vals _ _ _ ((HKA.out _ HB2.out).2.2.2) (HVA.out _ HB2.out) HLI.out).mono ?_
    rintro e w3 ⟨rfl, hb3⟩
    have hb4 : Below w.heap.size w w3 := HB2.out.trans (hb3.mono (by simp; omega))
    clear hb3
    go_wp2
    go_ret
    exact ⟨ret_bool HE.out.symm, hb4⟩
  · -- kind 10
    have HFF : Hid (own.length = 1 ∧ c.lits.length = 1) := by
      have h := HFO.out
      unfold formB at h
      rw [HKD.out] at h
      simp at h
      exact ⟨HOL.out.trans h.2.1, h.2.2.1⟩
    obtain ⟨p, rfl⟩ : ∃ p, own = [p] := by
      match own, HFF.out.1 with
      | [p], _ => exact ⟨p, rfl⟩
    obtain ⟨l, hl⟩ : ∃ l, c.lits = [l] := by
      match c.lits, HFF.out.2 with
      | [l], _ => exact ⟨l, rfl⟩
    obtain ⟨b, off, rfl, hb, e0⟩ := H6.out 0 p rfl
    rw [Nat.add_zero] at e0
    have HE : Hid (R = (p == (if litB vals l then 1 else 0))) := by rw [← HR.out]; unfold holdsC; rw [HKD.out, HOWN.out, hl]; rfl
    obtain ⟨a2', c2', hva, _, hrc⟩ := (HKA.out _ HB1.out).2.2.2
    obtain ⟨b2, off2, hax, hb2, g0, g1, g2⟩ := hrc 0 l (by rw [hl]; rfl)
    have ha2 : a4 = some ⟨b2, off2, none⟩ := by cases hva; exact hax
    subst ha2
    simp only [Nat.zero_mul, Nat.add_zero] at g0 g1 g2
    have HLL := HLI.out l (by rw [hl]; simp)
    have hlen : c.lits.length = 1 := by rw [hl]; rfl
    obtain ⟨j, hj⟩ : ∃ j : Nat, l.var = (j : Int) := ⟨l.var.toNat, by omega⟩
    have hjl : j < vals.length := by omega
    obtain ⟨y, hy⟩ : ∃ y, vals[j]? = some y := ⟨vals[j], by simp [hjl]⟩
    obtain ⟨a7, c7, hva7, hm7, hrc7⟩ := HVA.out _ HB1.out
    obtain ⟨b7, off7, hax7, hb7, g7⟩ := hrc7 j y hy
    have ha5 : a5 = some ⟨b7, off7, none⟩ := by cases hva7; exact hax7
    have hm75 : vals.length ≤ c5 ∧ c5 ≤ maxLen := by cases hva7; exact hm7
    unfold maxLen at hm75
    obtain ⟨hm71, hm72⟩ := hm75
    subst ha5
    obtain ⟨B, HB⟩ : ∃ B : Bool, Hid (litB vals l = B) := ⟨_, rfl⟩
    rw [HB.out] at HE
    have HBV : Hid (litV y l = B) := by
      have h := HB.out
      unfold litB at h
      rwa [hj, valAt_get vals j y hy] at h
    obtain ⟨N, hN⟩ : ∃ N : Int, (if B then (1 : Int) else 0) = N := ⟨_, rfl⟩
    have HOI : Hid (∀ W' : World, Calls Tryz.prog 109 #[.bool B] W' fun e w' => e = .returned (.int .i64 N) ∧ w' = W') := by
      intro W'; rw [← hN]; exact oneif_any B W'
    rw [hN] at HE
    clear hN
    obtain ⟨W, hW⟩ : ∃ W : World, W = w1.alloc (.cells #[.slice (some ⟨b, off, none⟩) 1 c6] 39) := ⟨_, rfl⟩
    have HW : Hid (W = w1.alloc (.cells #[.slice (some ⟨b, off, none⟩) 1 c6] 39)) := hW
    have HB2W : Hid (Below w.heap.size w W) := by rw [hW]; exact HB2.out
    have HCL : Hid (∀ wq : World, Below W.heap.size W wq → Calls Tryz.prog 93 #[.agg #[.int .i64 (j : Int), .int .i64 l.op, .int .i64 l.n], .int .i64 y] wq fun e w' => e = .returned (.bool B) ∧ Below W.heap.size W w') := by
      intro wq hq
      rw [← hj]
      refine (lit_true l y wq).mono ?_
      rintro e w' ⟨rfl, hb⟩
      exact ⟨by rw [HBV.out], hq.trans (hb.mono hq.size)⟩
    have k0 : W.cell? ⟨w1.heap.size, 0, none⟩ = some (.slice (some ⟨b, off, none⟩) 1 c6) := by rw [hW]; simp
    have k1 : W.cell? ⟨b, off, none⟩ = some (.int .i64 p) := by rw [hW]; exact (World.cell?_alloc_past _ _ _ hb).trans e0
    have k2 : W.cell? ⟨w.heap.size, 5, none⟩ = some (.slice (some ⟨b2, off2, none⟩) 1 c4) := by rw [hW, ← hlen]; exact (World.cell?_alloc_past _ _ _ hl0).trans d5
    have k3 : W.cell? ⟨b2, off2, none⟩ = some (.int .i64 (j : Int)) := by rw [hW, ← hj]; exact (World.cell?_alloc_past _ _ _ hb2).trans g0
    have k4 : W.cell? ⟨b2, off2 + 1, none⟩ = some (.int .i64 l.op) := by rw [hW]; exact (World.cell?_alloc_past _ _ _ hb2).trans g1
    have k5 : W.cell? ⟨b2, off2 + 2, none⟩ = some (.int .i64 l.n) := by rw [hW]; exact (World.cell?_alloc_past _ _ _ hb2).trans g2
    have k7 : W.cell? ⟨b7, off7 + j, none⟩ = some (.int .i64 y) := by rw [hW]; exact (World.cell?_alloc_past _ _ _ hb7).trans g7
    have hsW : W.heap.size = w1.heap.size + 1 := by rw [hW]; simp
    have HSW : Hid (W.heap.size = w1.heap.size + 1) := hsW
    clear hW hsW hva hrc hax hl hva7 hrc7 hax7 hm7 hy hj
    go_wp2
    rw [← HW.out]
    clear d0 d2 d3 d4 d5 e0 g0 g1 g2 g7 H6 HX HKA HVA HVI HLI HCI HOB HFO HFF HOL HOWN HLL HR HKD HB1 hm21 hm41 hm2 hm4 hm61 hm6
    refine region_below (by kernel_rfl) (by kernel_rfl) ?_
    go_big_quiet_want
    refine ⟨.slice (some ⟨b, off, none⟩) 1 c6, fun wq hq => ?_, ?_⟩
    · have h0 := (hq.cell (p := ⟨w1.heap.size, 0, none⟩) (by have := HSW.out; simp only; omega)).trans k0
      simp [Oper.quietAt, go_sem, h0]
    go_simp
    go_big_quiet_on
    go_big_quiet_want
    go_big_quiet_op
    first | go_big_quiet_on | (refine ⟨_, fun _ _ => rfl, ?_⟩; go_big_quiet_on)
    go_big_quiet_want
    refine ⟨.int .i64 p, fun wq hq => ?_, ?_⟩
    · have h0 := (hq.cell (p := ⟨b, off, none⟩) (by have := HSW.out; simp only; omega)).trans k1
      simp [Oper.quietAt, go_sem, h0]
    go_simp
    go_big_quiet_on
    go_big_quiet_want
    go_big_quiet_op
    first | go_big_quiet_on | (refine ⟨_, fun _ _ => rfl, ?_⟩; go_big_quiet_on)
    go_big_quiet_want
    refine ⟨.slice (some ⟨b2, off2, none⟩) 1 c4, fun wq hq => ?_, ?_⟩
    · have h0 := (hq.cell (p := ⟨w.heap.size, 5, none⟩) (by have := HSW.out; simp only; omega)).trans k2
      simp [Oper.quietAt, go_sem, h0]
    go_simp
    go_big_quiet_on
    go_big_quiet_want
    go_big_quiet_op
    first | go_big_quiet_on | (refine ⟨_, fun _ _ => rfl, ?_⟩; go_big_quiet_on)
    go_big_quiet_want
    refine ⟨.agg #[.int .i64 (j : Int), .int .i64 l.op, .int .i64 l.n], fun wq hq => ?_, ?_⟩
    · have h0 := (hq.cell (p := ⟨b2, off2, none⟩) (by have := HSW.out; simp only; omega)).trans k3
      have h1 := (hq.cell (p := ⟨b2, off2 + 1, none⟩) (by have := HSW.out; simp only; omega)).trans k4
      have h2 := (hq.cell (p := ⟨b2, off2 + 2, none⟩) (by have := HSW.out; simp only; omega)).trans k5
      simp [Oper.quietAt, go_sem, h0, h1, h2]
    go_simp
    go_big_quiet_on
    go_big_quiet_want
    go_big_quiet_op
    first | go_big_quiet_on | (refine ⟨_, fun _ _ => rfl, ?_⟩; go_big_quiet_on)
    go_big_quiet_want
    go_big_quiet_op
    first | go_big_quiet_on | (refine ⟨_, fun _ _ => rfl, ?_⟩; go_big_quiet_on)
    go_big_quiet_want
    refine ⟨.slice (some ⟨b2, off2, none⟩) 1 c4, fun wq hq => ?_, ?_⟩
    · have h0 := (hq.cell (p := ⟨w.heap.size, 5, none⟩) (by have := HSW.out; simp only; omega)).trans k2
      simp [Oper.quietAt, go_sem, h0]
    go_simp
    go_big_quiet_on
    go_big_quiet_want
    go_big_quiet_op
    first | go_big_quiet_on | (refine ⟨_, fun _ _ => rfl, ?_⟩; go_big_quiet_on)
    go_big_quiet_want
    go_big_quiet_op
    first | go_big_quiet_on | (refine ⟨_, fun _ _ => rfl, ?_⟩; go_big_quiet_on)
    go_big_quiet_want
    refine ⟨.int .i64 (j : Int), fun wq hq => ?_, ?_⟩
    · have h0 := (hq.cell (p := ⟨b2, off2, none⟩) (by have := HSW.out; simp only; omega)).trans k3
      simp [Oper.quietAt, go_sem, h0]
    go_simp
    go_big_quiet_on
    go_big_quiet_want
    go_big_quiet_op
    first | go_big_quiet_on | (refine ⟨_, fun _ _ => rfl, ?_⟩; go_big_quiet_on)
    go_big_quiet_want
    refine ⟨.int .i64 y, fun wq hq => ?_, ?_⟩
    · have h0 := (hq.cell (p := ⟨b7, off7 + j, none⟩) (by have := HSW.out; simp only; omega)).trans k7
      simp [Oper.quietAt, go_sem, h0]
    go_simp
    go_big_quiet_on
    go_big_quiet_want
    refine ⟨.bool B, fun wq hq => ?_, ?_⟩
    · simp [Oper.quietAt, go_sem]
      exact HCL.out wq hq
    go_simp
    go_big_quiet_on
    go_big_quiet_want
    refine ⟨.int .i64 N, fun wq hq => ?_, ?_⟩
    · simp [Oper.quietAt, go_sem]
      exact (HOI.out wq).mono (fun e w' h => ⟨h.1, by rw [h.2]; exact hq⟩)
    go_simp
    go_big_quiet_on
    go_big_quiet_want
    go_big_quiet_op
    first | go_big_quiet_on | (refine ⟨_, fun _ _ => rfl, ?_⟩; go_big_quiet_on)
    go_big_quiet_want
    go_big_quiet_op
    first | go_big_quiet_on | (refine ⟨_, fun _ _ => rfl, ?_⟩; go_big_quiet_on)
    refine wpQuiet_nil ?_
    intro w' hw'
    have hb4 : Below w.heap.size w w' := HB2W.out.trans (hw'.mono HB2W.out.size)
    clear hw'
    go_wp2
    go_ret
    exact ⟨ret_bool HE.out.symm, hb4⟩
end Go.Proofs.YtijohkhpigjbkaeGreatDoor
/-
  WALKS: package model: checkWithCon, Holds, All.
-/
namespace Go.Proofs.YtijohkhpigjbkaeGreatDoor
open Go.RowKit

def conCheck (m : Mod) (con : Int) : Int := if checkM m = 0 then (if con < 0 ∨ (m.cons.length : Int) ≤ con then 5 else 0) else checkM m
def noCon : MCon := ⟨0, [], [], 0, [], []⟩
def holdsA (m : Mod) (con : Int) (vals : List Int) : Bool × Int :=
  if conCheck m con = 0 then
    (if vals.length = m.vars.length then (if vals.all (fun x => inB x 50) then (holdsC (m.cons.getD con.toNat noCon) vals, 0) else (false, 3)) else (false, 1))
  else (false, conCheck m con)
def insideV (v : MVar) (x : Int) : Bool := !decide (x < v.lo) && !decide (v.hi < x)
def allA (m : Mod) (vals : List Int) : Bool × Int :=
  if checkM m = 0 then
    (if vals.length = m.vars.length then ((m.vars.zip vals).all (fun p => insideV p.1 p.2) && m.cons.all (fun c => holdsC c vals), 0) else (false, 1))
  else (false, checkM m)

set_option maxHeartbeats 800000 in
set_option maxRecDepth 100000 in
theorem check_con (m : Mod) (con : Int) (vs cs : Value) (w : World) (hm : MArg w vs cs m) :
    Calls Tryz.prog 65 #[modV vs cs m, .int .i64 con] w fun e w' => e = .returned (.int .i64 (conCheck m con)) ∧ Below w.heap.size w w' := by
  have HMA : Hid (∀ w' : World, Below w.heap.size w w' → MArg w' vs cs m) := fun w' h => MArg.below h hm
  obtain ⟨⟨a1, c1, rfl, _, _⟩, ⟨a2, c2, rfl, hl2, _⟩⟩ := hm
  unfold maxLen at hl2
  obtain ⟨hl21, hl2⟩ := hl2
  obtain ⟨R, hR⟩ : ∃ R, conCheck m con = R := ⟨_, rfl⟩
  rw [hR]
  obtain ⟨er, her⟩ : ∃ er, checkM m = er := ⟨_, rfl⟩
  have HER : Hid (checkM m = er) := her
  have HE : Hid (R = if er = 0 then (if con < 0 ∨ (m.cons.length : Int) ≤ con then 5 else 0) else er) := by rw [← hR, ← her]; rfl
  clear hR her
  unfold modV
  go_enter Tryz.func65, Tryz.ntmps65
  go_wp2_with fail
  refine (check_model m (.slice a1 m.vars.length c1) (.slice a2 m.cons.length c2) _ ?_).mono ?_
  · exact HMA.out _ (below_alloc _ _)
  rintro e w1 ⟨rfl, hb1⟩
  rw [HER.out]
  have d1 : w1.cell? ⟨w.heap.size, 1, none⟩ = some (.slice a2 m.cons.length c2) := (hb1.cell (by simp)).trans (by simp)
  have HB1 : Hid (Below w.heap.size w w1) := (below_alloc _ _).trans (hb1.mono (by simp))
  clear hb1
  by_cases he : er = 0
  · subst he
    by_cases q1 : con < 0
    · have HN : Hid (R = 5) := by rw [HE.out, if_pos rfl, if_pos (Or.inl q1)]; rfl
      go_wp2
      go_ret
      exact ⟨ret_int HN.out.symm, HB1.out⟩
    · by_cases q2 : (m.cons.length : Int) ≤ con
      · have HN : Hid (R = 5) := by rw [HE.out, if_pos rfl, if_pos (Or.inr q2)]; rfl
        go_wp2
        go_ret
        exact ⟨ret_int HN.out.symm, HB1.out⟩
      · have HN : Hid (R = 0) := by rw [HE.out, if_pos rfl, if_neg (by omega)]; rfl
        go_wp2
        go_ret
        exact ⟨ret_int HN.out.symm, HB1.out⟩
  · have HN : Hid (R = er) := by rw [HE.out, if_neg he]; rfl
    have he2 : (er != 0) = true := by simpa using he
    clear he
    go_wp2
    go_ret
    exact ⟨ret_int HN.out.symm, HB1.out⟩

theorem conCheck_ok (m : Mod) (con : Int) (h : conCheck m con = 0) : checkM m = 0 ∧ 0 ≤ con ∧ con < m.cons.length := by
  unfold conCheck at h
  split at h
  · rename_i h0
    split at h
    · cases h
    · exact ⟨h0, by omega, by omega⟩
  · contradiction

end Go.Proofs.YtijohkhpigjbkaeGreatDoor
/-
  The library's contracts at this program, laid: one application each.
-/
namespace Go.Proofs
open Go.Shelf
def Tryz.lays189_ren : Go.Shelf.Ren := ⟨fun | 189 => 99 | 125 => 156 | 257 => 155 | 128 => 207 | 129 => 208 | 294 => 198 | 295 => 199 | 296 => 200 | 297 => 201 | 298 => 202 | 299 => 203 | 216 => 204 | 300 => 205 | 301 => 206 | 328 => 222 | 329 => 223 | 330 => 224 | 331 => 225 | 332 => 226 | 215 => 227 | 343 => 231 | n => n, fun | 28 => 39 | 3 => 3 | 46 => 190 | 0 => 0 | 51 => 226 | 53 => 117 | 4 => 4 | 183 => 219 | 182 => 218 | 131 => 223 | 5 => 5 | 9 => 9 | 218 => 240 | 222 => 244 | 228 => 249 | 229 => 212 | n => n, fun | n => n⟩
theorem Tryz.lays189 : Go.Proofs.Lays.n189 Tryz.prog Tryz.lays189_ren := {
  mixed := by kernel_rfl
  f125 := Tryz.func156.trans (congrArg some (by kernel_rfl))
  f128 := Tryz.func207.trans (congrArg some (by kernel_rfl))
  f129 := Tryz.func208.trans (congrArg some (by kernel_rfl))
  f189 := Tryz.func99.trans (congrArg some (by kernel_rfl))
  f215 := Tryz.func227.trans (congrArg some (by kernel_rfl))
  f216 := Tryz.func204.trans (congrArg some (by kernel_rfl))
  f257 := Tryz.func155.trans (congrArg some (by kernel_rfl))
  f294 := Tryz.func198.trans (congrArg some (by kernel_rfl))
  f295 := Tryz.func199.trans (congrArg some (by kernel_rfl))
  f296 := Tryz.func200.trans (congrArg some (by kernel_rfl))
  f297 := Tryz.func201.trans (congrArg some (by kernel_rfl))
  f298 := Tryz.func202.trans (congrArg some (by kernel_rfl))
  f299 := Tryz.func203.trans (congrArg some (by kernel_rfl))
  f300 := Tryz.func205.trans (congrArg some (by kernel_rfl))
  f301 := Tryz.func206.trans (congrArg some (by kernel_rfl))
  f328 := Tryz.func222.trans (congrArg some (by kernel_rfl))
  f329 := Tryz.func223.trans (congrArg some (by kernel_rfl))
  f330 := Tryz.func224.trans (congrArg some (by kernel_rfl))
  f331 := Tryz.func225.trans (congrArg some (by kernel_rfl))
  f332 := Tryz.func226.trans (congrArg some (by kernel_rfl))
  f343 := Tryz.func231.trans (congrArg some (by kernel_rfl))
  t0 := Tryz.underlying0
  a0 := Tryz.isAgg0
  z0 := Tryz.sizeOf0
  v0 := Tryz.zeroValue0
  t3 := Tryz.underlying3
  a3 := Tryz.isAgg3
  z3 := Tryz.sizeOf3
  v3 := Tryz.zeroValue3
  t4 := Tryz.underlying4
  a4 := Tryz.isAgg4
  z4 := Tryz.sizeOf4
  v4 := Tryz.zeroValue4
  t5 := Tryz.underlying5
  a5 := Tryz.isAgg5
  z5 := Tryz.sizeOf5
  v5 := Tryz.zeroValue5
  t9 := Tryz.underlying9
  a9 := Tryz.isAgg9
  z9 := Tryz.sizeOf9
  v9 := Tryz.zeroValue9
  t28 := Tryz.underlying39
  a28 := Tryz.isAgg39
  z28 := Tryz.sizeOf39
  v28 := Tryz.zeroValue39
  t46 := Tryz.underlying190
  a46 := Tryz.isAgg190
  z46 := Tryz.sizeOf190
  v46 := Tryz.zeroValue190
  t51 := Tryz.underlying226
  a51 := Tryz.isAgg226
  z51 := Tryz.sizeOf226
  v51 := Tryz.zeroValue226
  t53 := Tryz.underlying117
  a53 := Tryz.isAgg117
  z53 := Tryz.sizeOf117
  v53 := Tryz.zeroValue117
  t131 := Tryz.underlying223
  a131 := Tryz.isAgg223
  z131 := Tryz.sizeOf223
  v131 := Tryz.zeroValue223
  t182 := Tryz.underlying218
  a182 := Tryz.isAgg218
  z182 := Tryz.sizeOf218
  v182 := Tryz.zeroValue218
  t183 := Tryz.underlying219
  a183 := Tryz.isAgg219
  z183 := Tryz.sizeOf219
  v183 := Tryz.zeroValue219
  t218 := Tryz.underlying240
  a218 := Tryz.isAgg240
  z218 := Tryz.sizeOf240
  v218 := Tryz.zeroValue240
  t222 := Tryz.underlying244
  a222 := Tryz.isAgg244
  z222 := Tryz.sizeOf244
  v222 := Tryz.zeroValue244
  t228 := Tryz.underlying249
  a228 := Tryz.isAgg249
  z228 := Tryz.sizeOf249
  v228 := Tryz.zeroValue249
  t229 := Tryz.underlying212
  a229 := Tryz.isAgg212
  z229 := Tryz.sizeOf212
  v229 := Tryz.zeroValue212 }
open Go.Sort Go.RowKit in
theorem Tryz.slices_Sort_int (blk off cap : Nat) (zs : List Int) (w : World) (hH : Holds (Value.int .i64) w blk off zs.toArray) (hblk : blk < w.heap.size) (hsz : zs.length < 4611686018427387904) :
    Calls Tryz.prog 99 #[.slice (some ⟨blk, off, none⟩) zs.length cap] w fun e w' =>
      e = .returned (.tuple #[]) ∧ ∃ n os, w' = grow (putRow (Value.int .i64) (Sort.ahead w n) blk off (zs.mergeSort fun x y => decide (x ≤ y)).toArray) os := Any.slices_Sort_int Tryz.lays189 blk off cap zs w hH hblk hsz
def Tryz.laysNm220_ren : Go.Shelf.Ren := ⟨fun | 20 => 100 | n => n, fun | 22 => 39 | 3 => 3 | 4 => 4 | 0 => 0 | n => n, fun | n => n⟩
theorem Tryz.laysNm220 : Go.Proofs.Lays2.n20 Tryz.prog Tryz.laysNm220_ren := {
  mixed := by kernel_rfl
  f20 := Tryz.func100.trans (congrArg some (by kernel_rfl))
  t0 := Tryz.underlying0
  a0 := Tryz.isAgg0
  z0 := Tryz.sizeOf0
  v0 := Tryz.zeroValue0
  t3 := Tryz.underlying3
  a3 := Tryz.isAgg3
  z3 := Tryz.sizeOf3
  v3 := Tryz.zeroValue3
  t4 := Tryz.underlying4
  a4 := Tryz.isAgg4
  z4 := Tryz.sizeOf4
  v4 := Tryz.zeroValue4
  t22 := Tryz.underlying39
  a22 := Tryz.isAgg39
  z22 := Tryz.sizeOf39
  v22 := Tryz.zeroValue39
  i3 := by kernel_rfl }
open Go.RowKit Go.Lib Go.Sort in
theorem Tryz.slices_Compact_int_arr (blk off cap : Nat) (d : Array Int) (w : World) (hH : Holds encI w blk off d) (hsz : d.size ≤ 9223372036854775807) (hcap : d.size ≤ cap) :
    Calls Tryz.prog 100 #[.slice (some ⟨blk, off, none⟩) d.size cap] w fun e w' => e = .returned (.slice (some ⟨blk, off, none⟩) (compactUpTo d d.size).length cap) ∧ ∃ q, w' = putRow encI (Sort.ahead w q) blk off (compactUpTo d d.size ++ List.replicate (d.size - (compactUpTo d d.size).length) 0).toArray := Any.slices_Compact_int_arr Tryz.laysNm220 blk off cap d w hH hsz hcap
open Go.RowKit Go.Lib Go.Sort in
theorem Tryz.slices_Compact_int (blk off cap : Nat) (zs : List Int) (w : World) (hH : Holds (Value.int .i64) w blk off zs.toArray) (hsz : zs.length ≤ 9223372036854775807) (hcap : zs.length ≤ cap) :
    Calls Tryz.prog 100 #[.slice (some ⟨blk, off, none⟩) zs.length cap] w fun e w' => e = .returned (.slice (some ⟨blk, off, none⟩) (Lib.compact zs).length cap) ∧ ∃ q, w' = putRow (Value.int .i64) (Sort.ahead w q) blk off (Lib.compact zs ++ List.replicate (zs.length - (Lib.compact zs).length) 0).toArray := Any.slices_Compact_int Tryz.laysNm220 blk off cap zs w hH hsz hcap
open Go.RowKit Go.Lib Go.Sort in
theorem Tryz.slices_Compact_int_empty (a : Option Addr) (cap : Nat) (w : World) :
    Calls Tryz.prog 100 #[.slice a 0 cap] w fun e w' => e = .returned (.slice a 0 cap) ∧ w' = w := Any.slices_Compact_int_empty Tryz.laysNm220 a cap w
end Go.Proofs
/-
  slices.Sort and slices.Compact on numbers of one's own, in this proof's words.
-/
namespace Go.Proofs.YtijohkhpigjbkaeGreatDoor
open Go.RowKit Go.Sort

theorem put_below (w : World) (n g B : Nat) (d : Array Int) (hB : B ≤ g) : Below B w (putRow (Value.int .i64) (Sort.ahead w n) g 0 d) := by
  refine ⟨rfl, rfl, rfl, by simp [putRow, mapBlock, Sort.ahead], fun k hk => ?_⟩
  show (Array.modify _ _ _)[k]? = _
  rw [Array.getElem?_modify, if_neg (by omega)]; rfl
theorem grow_below (w : World) (os : Array Obj) (B : Nat) (hB : B ≤ w.heap.size) : Below B w (grow w os) :=
  ⟨rfl, rfl, rfl, by simp, fun k hk => heap_grow_old w os (by omega)⟩
/-- A row of numbers that may be written: it lies at a block's head. -/
def IRow (w : World) (g : Nat) (zs : List Int) : Prop := Holds (Value.int .i64) w g 0 zs.toArray ∧ g < w.heap.size
theorem irow_own {w : World} {base g cap : Nat} {zs : List Int} (h : w.ownsRow base 3 1 (.slice (some ⟨g, 0, none⟩) zs.length cap) zs.length (zs.map (Value.int .i64))) : IRow w g zs := by
  refine ⟨fun j hj => ?_, (h.lt g rfl).2⟩
  have hj' : j < zs.length := by simpa using hj
  rw [Nat.zero_add]
  refine ⟨?_, h.frozenAt j⟩
  rw [h.cellAt j (by omega), List.getElem?_map]
  simp [hj']
theorem irow_arg {w : World} {g cap n : Nat} {zs : List Int} (h : IRow w g zs) (hn : n = zs.length) (hc : n ≤ cap) (hm : cap ≤ maxLen) : IArg w (.slice (some ⟨g, 0, none⟩) n cap) zs := by
  subst hn
  refine ⟨_, cap, rfl, ⟨hc, hm⟩, fun i z hz => ⟨g, 0, rfl, h.2, ?_⟩⟩
  have hi : i < zs.length := (List.getElem?_eq_some_iff.1 hz).1
  have hz' : zs[i] = z := by simpa [hi] using hz
  have := (h.1 i (by simpa using hi)).1
  rw [this]
  simp [hi, hz']

def sortI (zs : List Int) : List Int := zs.mergeSort fun x y => decide (x ≤ y)
theorem sortI_len (zs : List Int) : (sortI zs).length = zs.length := by simp [sortI]

theorem sort_any (zs : List Int) (g cap B : Nat) (w : World) (h : IRow w g zs) (hB : B ≤ g) (hn : zs.length ≤ 1000) :
    Calls Tryz.prog 99 #[.slice (some ⟨g, 0, none⟩) zs.length cap] w fun e w' => e = .returned (.tuple #[]) ∧ IRow w' g (sortI zs) ∧ Below B w w' := by
  refine (Tryz.slices_Sort_int g 0 cap zs w h.1 h.2 (by omega)).mono ?_
  rintro e w' ⟨rfl, n, os, rfl⟩
  have hp : Holds (Value.int .i64) (Sort.ahead w n) g 0 zs.toArray := h.1
  have hs : g < (putRow (Value.int .i64) (Sort.ahead w n) g 0 (sortI zs).toArray).heap.size := by
    have : (putRow (Value.int .i64) (Sort.ahead w n) g 0 (sortI zs).toArray).heap.size = w.heap.size := by simp [putRow, mapBlock, Sort.ahead]
    rw [this]; exact h.2
  have h2 := h.2
  refine ⟨rfl, ⟨holds_grow _ _ _ _ _ _ hs (holds_putRow _ _ _ _ _ _ hp (by simp)), by simp; omega⟩, (put_below w n g B _ hB).trans (grow_below _ _ _ (Nat.le_trans hB (Nat.le_of_lt hs)))⟩

def compI (zs : List Int) : List Int := Lib.compact zs
theorem holds_take {w : World} {g : Nat} (a b : List Int) (h : Holds (Value.int .i64) w g 0 (a ++ b).toArray) : Holds (Value.int .i64) w g 0 a.toArray := by
  intro j hj
  have hj' : j < a.length := by simpa using hj
  have := h j (by simp; omega)
  have e1 : (a ++ b).toArray[j]! = a.toArray[j]! := by
    simp [List.getElem?_append_left hj']
  rw [e1] at this
  exact this
theorem compI_len (zs : List Int) : (compI zs).length ≤ zs.length := by
  unfold compI Lib.compact Lib.compactUpTo
  rw [List.length_map]
  exact Nat.le_trans (List.length_filter_le _ _) (by simp)
theorem compact_any (zs : List Int) (g cap B : Nat) (w : World) (h : IRow w g zs) (hB : B ≤ g) (hn : zs.length ≤ 1000) (hc : zs.length ≤ cap) :
    Calls Tryz.prog 100 #[.slice (some ⟨g, 0, none⟩) zs.length cap] w fun e w' => e = .returned (.slice (some ⟨g, 0, none⟩) (compI zs).length cap) ∧ IRow w' g (compI zs) ∧ Below B w w' := by
  refine (Tryz.slices_Compact_int g 0 cap zs w h.1 (by omega) hc).mono ?_
  rintro e w' ⟨rfl, q, rfl⟩
  have hp : Holds (Value.int .i64) (Sort.ahead w q) g 0 zs.toArray := h.1
  refine ⟨rfl, ⟨?_, ?_⟩, put_below w q g B _ hB⟩
  · refine holds_take (compI zs) (List.replicate (zs.length - (compI zs).length) 0) ?_
    have hl := compI_len zs
    exact holds_putRow _ _ _ _ _ _ hp (by simp; unfold compI at *; omega)
  · have : (putRow (Value.int .i64) (Sort.ahead w q) g 0 (Lib.compact zs ++ List.replicate (zs.length - (Lib.compact zs).length) 0).toArray).heap.size = w.heap.size := by simp [putRow, mapBlock, Sort.ahead]
    rw [this]; exact h.2
end Go.Proofs.YtijohkhpigjbkaeGreatDoor
