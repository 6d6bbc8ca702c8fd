/-
  PART 9 of what the proof leans on (ModG, ModH, StoPlain, SifPlain, LitPlain, RcA, RcB, RcC, RcD).
-/
import Derived.Test.YtdjbejlbmaiocabGreatDoorPartH
import Derived.ProofKit
import Derived.OpenShut
import Derived.ShutString
import Derived.ChangeOld
import Derived.Below
import Derived.SizedLaws
import Derived.Deep.Slices
import Derived.Deep.Strs
import Derived.Lib.SmallJoins
import Derived.Deep.RegionLaw
/-
  A model that came in, opened.
-/
namespace Go.Proofs.YtdjbejlbmaiocabGreatDoor
open Go.ChangeShapes Go.WideShapes Go.ChangeAt Go.RowKit Go.Deep

section
variable {H : Type} {enc : TypeId × Value → H} {w : World} {base : Nat} {spare : Nat → Bool} {held : Bool}

/-- A slice, opened by what its elements are. -/
theorem open_elems {α : Type} [Inhabited α] {t e : TypeId} {size : Nat} (ht : Tryz.prog.underlying t = some (.slice e)) (hc : Tryz.prog.cellsOf e = size) (hsz : 0 < size) (cellsOf : α → List Value) (good : α → Prop)
    (hel : ∀ (n : Nat) (cs' : List Value) (x' : DataW H × List MemPlace), DataW.trod enc Tryz.prog w base spare held n e cs' = some x' → ∃ a : α, cs' = cellsOf a ∧ good a)
    {fuel : Nat} {cs : List Value} {x : DataW H × List MemPlace} (h : DataW.trod enc Tryz.prog w base spare held fuel t cs = some x) :
    ∃ (l : List α) (a : Option Addr) (c : Nat), cs = [.slice a l.length c] ∧ (l.length ≤ c ∧ c ≤ maxLen) ∧ ∀ (i : Nat) (y : α), l[i]? = some y → good y ∧ ∃ b off, a = some ⟨b, off, none⟩ ∧ b < w.heap.size ∧ ∀ (j : Nat) (u : Value), (cellsOf y)[j]? = some u → w.cell? ⟨b, off + (i * size + j), none⟩ = some u := by
  rcases open_slice ht h with ⟨hcs, _⟩ | ⟨a, len, cap, m, n, D, Pl, hcs, _, hl, hcm, hmm, _, hx⟩
  · exact ⟨[], none, 0, hcs, ⟨Nat.le_refl _, Nat.zero_le _⟩, fun i y h => by simp at h⟩
  · have hlm : len ≤ m := by rw [hmm]; split <;> omega
    have each : ∀ i, i < len → ∃ y : α, good y ∧ (cellsOf y).length = size ∧ ∀ j u, (cellsOf y)[j]? = some u → w.cell? (a.add (i * size + j)) = some u := by
      intro i hi
      obtain ⟨cs', hc', ht'⟩ := hx i (by omega)
      obtain ⟨y, rfl, hg⟩ := hel n cs' _ ht'
      obtain ⟨_, hlen, hcell⟩ := World.cells?_some hc'
      rw [hc] at hlen
      refine ⟨y, hg, hlen, fun j u hj => ?_⟩
      have hj3 : j < (cellsOf y).length := (List.getElem?_eq_some_iff.1 hj).1
      have := hcell j (by rw [hc, ← hlen]; exact hj3)
      rw [hc, add_add] at this
      rw [this]; exact hj
    obtain ⟨f, hf⟩ := choose_lt each
    refine ⟨(List.range len).map f, some a, cap, by simpa using hcs, ⟨by simpa using hl, hcm⟩, fun i y hy => ?_⟩
    have hi : i < len := by have := (List.getElem?_eq_some_iff.1 hy).1; simpa using this
    have hyf : y = f i := by simp [hi] at hy; exact hy.symm
    subst hyf
    obtain ⟨hg, hlen, hcell⟩ := hf i hi
    obtain ⟨_, hlen0, hcell0⟩ := hf 0 (by omega)
    obtain ⟨u0, hu0⟩ : ∃ u0, (cellsOf (f 0))[0]? = some u0 := ⟨(cellsOf (f 0))[0]'(by omega), by simp⟩
    have h00 := hcell0 0 u0 hu0
    have hspot : a.spot = none := by simpa [Addr.add] using World.cell?_spot h00
    have hblk : a.block < w.heap.size := by simpa [Addr.add] using World.block_lt_of_cell? w _ h00
    refine ⟨hg, a.block, a.off, ?_, hblk, fun j u hj => ?_⟩
    · obtain ⟨b, off, spot⟩ := a; simp only at hspot; subst hspot; rfl
    · have := hcell j u hj
      obtain ⟨b, off, spot⟩ := a; simp only at hspot; subst hspot
      rwa [add_plain] at this

theorem Tryz.cInt : Tryz.prog.cellsOf 3 = 1 := by kernel_rfl
theorem Tryz.cStr : Tryz.prog.cellsOf 9 = 1 := by kernel_rfl
theorem Tryz.cInts : Tryz.prog.cellsOf 50 = 1 := by kernel_rfl
theorem Tryz.cRows : Tryz.prog.cellsOf 51 = 1 := by kernel_rfl
theorem Tryz.cLits : Tryz.prog.cellsOf 52 = 1 := by kernel_rfl
theorem Tryz.cLit : Tryz.prog.cellsOf 76 = 3 := by kernel_rfl
theorem Tryz.cVar : Tryz.prog.cellsOf 47 = 3 := by kernel_rfl
theorem Tryz.cCon : Tryz.prog.cellsOf 54 = 6 := by kernel_rfl

theorem open_ilist {fuel : Nat} {cs : List Value} {x : DataW H × List MemPlace} (h : DataW.trod enc Tryz.prog w base spare held fuel 50 cs = some x) :
    ∃ v l, cs = [v] ∧ IArg w v l := by
  obtain ⟨l, a, c, hcs, hm, hr⟩ := open_elems (α := Int) Tryz.underlying50 Tryz.cInt (by decide) (fun z => [.int .i64 z]) (fun _ => True)
    (fun n cs' x' h' => by obtain ⟨z, hz, _, _⟩ := DataW.trod_int Tryz.underlying3 h'; exact ⟨z, hz, trivial⟩) h
  refine ⟨_, l, hcs, a, c, rfl, hm, fun i z hz => ?_⟩
  obtain ⟨_, b, off, ha, hb, hc⟩ := hr i z hz
  have := hc 0 _ rfl
  exact ⟨b, off, ha, hb, by simpa using this⟩

theorem open_rlist {fuel : Nat} {cs : List Value} {x : DataW H × List MemPlace} (h : DataW.trod enc Tryz.prog w base spare held fuel 51 cs = some x) :
    ∃ v l, cs = [v] ∧ RArg w v l := by
  obtain ⟨l, a, c, hcs, hm, hr⟩ := open_elems (α := Value × List Int) Tryz.underlying51 Tryz.cInts (by decide) (fun z => [z.1]) (fun z => IArg w z.1 z.2)
    (fun n cs' x' h' => by obtain ⟨v, r, hz, hi⟩ := open_ilist h'; exact ⟨(v, r), hz, hi⟩) h
  refine ⟨_, l.map (·.2), hcs, a, c, by simp, by simpa using hm, fun i r hr' => ?_⟩
  rw [List.getElem?_map] at hr'
  obtain ⟨⟨v, r2⟩, hz, rfl⟩ := Option.map_eq_some_iff.1 hr'
  obtain ⟨hg, b, off, ha, hb, hc⟩ := hr i _ hz
  have := hc 0 _ rfl
  exact ⟨b, off, v, ha, hb, by simpa using this, hg⟩

set_option maxRecDepth 100000 in
theorem one_lit {n : Nat} {cs : List Value} {x : DataW H × List MemPlace} (h : DataW.trod enc Tryz.prog w base spare held n 76 cs = some x) :
    ∃ t : MLit, cs = [.int .i64 t.var, .int .i64 t.op, .int .i64 t.n] := by
  obtain ⟨y0, y1, y2, m, _, hl, h0, h1, h2⟩ := trod_struct3 Tryz.underlying76 h
  rw [Tryz.cLit] at hl
  obtain ⟨k, hk, _, _⟩ := DataW.trod_int Tryz.underlying3 h0
  obtain ⟨p, hp, _, _⟩ := DataW.trod_int Tryz.underlying3 h1
  obtain ⟨s, hs, _, _⟩ := DataW.trod_int Tryz.underlying3 h2
  match cs, hl with
  | [c0, c1, c2], _ =>
    change List.take (Tryz.prog.cellsOf 3) [c0, c1, c2] = _ at hk
    change List.take (Tryz.prog.cellsOf 3) [c1, c2] = _ at hp
    change List.take (Tryz.prog.cellsOf 3) [c2] = _ at hs
    rw [Tryz.cInt] at hk hp hs
    simp at hk hp hs
    exact ⟨⟨k, p, s⟩, by rw [hk, hp, hs]⟩

theorem open_llist {fuel : Nat} {cs : List Value} {x : DataW H × List MemPlace} (h : DataW.trod enc Tryz.prog w base spare held fuel 52 cs = some x) :
    ∃ v l, cs = [v] ∧ LArg w v l := by
  have hinh : Inhabited MLit := ⟨⟨0, 0, 0⟩⟩
  obtain ⟨l, a, c, hcs, hm, hr⟩ := open_elems (α := MLit) Tryz.underlying52 Tryz.cLit (by decide) (fun t => [.int .i64 t.var, .int .i64 t.op, .int .i64 t.n]) (fun _ => True)
    (fun n cs' x' h' => by obtain ⟨t, ht⟩ := one_lit h'; exact ⟨t, ht, trivial⟩) h
  refine ⟨_, l, hcs, a, c, rfl, hm, fun i z hz => ?_⟩
  obtain ⟨_, b, off, ha, hb, hc⟩ := hr i z hz
  have e0 := hc 0 _ rfl
  have e1 := hc 1 _ rfl
  have e2 := hc 2 _ rfl
  rw [← Nat.add_assoc] at e0 e1 e2
  exact ⟨b, off, ha, hb, e0, e1, e2⟩

set_option maxRecDepth 100000 in
theorem one_var {n : Nat} {cs : List Value} {x : DataW H × List MemPlace} (h : DataW.trod enc Tryz.prog w base spare held n 47 cs = some x) :
    ∃ t : MVar, cs = [.string t.name, .int .i64 t.lo, .int .i64 t.hi] ∧ t.name.size ≤ maxLen := by
  obtain ⟨y0, y1, y2, m, _, hl, h0, h1, h2⟩ := trod_struct3 Tryz.underlying47 h
  rw [Tryz.cVar] at hl
  obtain ⟨k, hk, _, hsz⟩ := DataW.trod_string Tryz.underlying9 h0
  obtain ⟨p, hp, _, _⟩ := DataW.trod_int Tryz.underlying3 h1
  obtain ⟨s, hs, _, _⟩ := DataW.trod_int Tryz.underlying3 h2
  match cs, hl with
  | [c0, c1, c2], _ =>
    change List.take (Tryz.prog.cellsOf 9) [c0, c1, c2] = _ at hk
    change List.take (Tryz.prog.cellsOf 3) [c1, c2] = _ at hp
    change List.take (Tryz.prog.cellsOf 3) [c2] = _ at hs
    rw [Tryz.cStr] at hk
    rw [Tryz.cInt] at hp hs
    simp at hk hp hs
    exact ⟨⟨k, p, s⟩, by rw [hk, hp, hs], hsz⟩

theorem open_vlist {fuel : Nat} {cs : List Value} {x : DataW H × List MemPlace} (h : DataW.trod enc Tryz.prog w base spare held fuel 22 cs = some x) :
    ∃ v l, cs = [v] ∧ VArg w v l := by
  have hinh : Inhabited MVar := ⟨⟨ByteArray.empty, 0, 0⟩⟩
  obtain ⟨l, a, c, hcs, hm, hr⟩ := open_elems (α := MVar) Tryz.underlying22 Tryz.cVar (by decide) (fun t => [.string t.name, .int .i64 t.lo, .int .i64 t.hi]) (fun t => t.name.size ≤ maxLen)
    (fun n cs' x' h' => by obtain ⟨t, ht, hs⟩ := one_var h'; exact ⟨t, ht, hs⟩) h
  refine ⟨_, l, hcs, a, c, rfl, hm, fun i z hz => ?_⟩
  obtain ⟨hg, b, off, ha, hb, hc⟩ := hr i z hz
  have e0 := hc 0 _ rfl
  have e1 := hc 1 _ rfl
  have e2 := hc 2 _ rfl
  rw [← Nat.add_assoc] at e0 e1 e2
  exact ⟨hg, b, off, ha, hb, e0, e1, e2⟩

set_option maxRecDepth 100000 in
theorem one_con {n : Nat} {cs : List Value} {x : DataW H × List MemPlace} (h : DataW.trod enc Tryz.prog w base spare held n 54 cs = some x) :
    ∃ (t : MCon) (vv vc vr vl : Value), cs = [.int .i64 t.kind, vv, vc, .int .i64 t.n, vr, vl] ∧ KArg w vv vc vr vl t := by
  obtain ⟨xs, k, _, _, hl, hxl, hf⟩ := DataW.trod_struct Tryz.underlying54 h
  rw [Tryz.cCon] at hl
  match cs, hl, xs, hxl with
  | [c0, c1, c2, c3, c4, c5], _, [y0, y1, y2, y3, y4, y5], _ =>
    have g0 := hf 0 _ rfl
    have g1 := hf 1 _ rfl
    have g2 := hf 2 _ rfl
    have g3 := hf 3 _ rfl
    have g4 := hf 4 _ rfl
    have g5 := hf 5 _ rfl
    obtain ⟨kd, hk, _, _⟩ := DataW.trod_int Tryz.underlying3 g0
    obtain ⟨v1, l1, hv1, i1⟩ := open_ilist g1
    obtain ⟨v2, l2, hv2, i2⟩ := open_ilist g2
    obtain ⟨nn, hn, _, _⟩ := DataW.trod_int Tryz.underlying3 g3
    obtain ⟨v4, l4, hv4, i4⟩ := open_rlist g4
    obtain ⟨v5, l5, hv5, i5⟩ := open_llist g5
    change List.take (Tryz.prog.cellsOf 3) [c0, c1, c2, c3, c4, c5] = _ at hk
    change List.take (Tryz.prog.cellsOf 50) [c1, c2, c3, c4, c5] = _ at hv1
    change List.take (Tryz.prog.cellsOf 50) [c2, c3, c4, c5] = _ at hv2
    change List.take (Tryz.prog.cellsOf 3) [c3, c4, c5] = _ at hn
    change List.take (Tryz.prog.cellsOf 51) [c4, c5] = _ at hv4
    change List.take (Tryz.prog.cellsOf 52) [c5] = _ at hv5
    rw [Tryz.cInt] at hk hn
    rw [Tryz.cInts] at hv1 hv2
    rw [Tryz.cRows] at hv4
    rw [Tryz.cLits] at hv5
    simp at hk hv1 hv2 hn hv4 hv5
    exact ⟨⟨kd, l1, l2, nn, l4, l5⟩, v1, v2, v4, v5, by rw [hk, hv1, hv2, hn, hv4, hv5], i1, i2, i4, i5⟩

theorem open_clist {fuel : Nat} {cs : List Value} {x : DataW H × List MemPlace} (h : DataW.trod enc Tryz.prog w base spare held fuel 23 cs = some x) :
    ∃ v l, cs = [v] ∧ CArg w v l := by
  have hinh : Inhabited (MCon × Value × Value × Value × Value) := ⟨⟨0, [], [], 0, [], []⟩, .bool false, .bool false, .bool false, .bool false⟩
  obtain ⟨l, a, c, hcs, hm, hr⟩ := open_elems (α := MCon × Value × Value × Value × Value) Tryz.underlying23 Tryz.cCon (by decide)
    (fun t => [.int .i64 t.1.kind, t.2.1, t.2.2.1, .int .i64 t.1.n, t.2.2.2.1, t.2.2.2.2]) (fun t => KArg w t.2.1 t.2.2.1 t.2.2.2.1 t.2.2.2.2 t.1)
    (fun n cs' x' h' => by obtain ⟨t, vv, vc, vr, vl, ht, hk⟩ := one_con h'; exact ⟨(t, vv, vc, vr, vl), ht, hk⟩) h
  refine ⟨_, l.map (·.1), hcs, a, c, by simp, by simpa using hm, fun i r hr' => ?_⟩
  rw [List.getElem?_map] at hr'
  obtain ⟨⟨t, vv, vc, vr, vl⟩, hz, rfl⟩ := Option.map_eq_some_iff.1 hr'
  obtain ⟨hg, b, off, ha, hb, hc⟩ := hr i _ hz
  have e0 := hc 0 _ rfl
  have e1 := hc 1 _ rfl
  have e2 := hc 2 _ rfl
  have e3 := hc 3 _ rfl
  have e4 := hc 4 _ rfl
  have e5 := hc 5 _ rfl
  rw [← Nat.add_assoc] at e0 e1 e2 e3 e4 e5
  exact ⟨b, off, vv, vc, vr, vl, ha, hb, e0, e1, e2, e3, e4, e5, hg⟩

theorem Tryz.cModel : Tryz.prog.cellsOf 25 = 4 := by kernel_rfl
set_option maxRecDepth 100000 in
/-- A model by value. -/
theorem open_model {r : Reach} {b0 : Nat} {v : Value} {d : DataW H} {p : List MemPlace} (hv : Value.okWide Tryz.prog w r b0 25 v) (h : DataW.Trod enc Tryz.prog w base spare held 25 v d p) :
    ∃ vs cs m, v = modV vs cs m ∧ MArg w vs cs m := by
  obtain ⟨v0, v1, v2, v3, y0, y1, y2, y3, n, rfl, _, _, h0, h1, h2, h3⟩ := Go.Joins.open_agg4 Tryz.underlying25 (by kernel_rfl) Tryz.cModel hv h
  obtain ⟨a0, l0, e0, i0⟩ := open_vlist h0
  obtain ⟨a1, l1, e1, i1⟩ := open_clist h1
  obtain ⟨g, hg, _, _⟩ := DataW.trod_int Tryz.underlying3 h2
  obtain ⟨q, hq, _, _⟩ := DataW.trod_int Tryz.underlying3 h3
  cases e0; cases e1; cases hg; cases hq
  exact ⟨v0, v1, ⟨l0, l1, g, q⟩, rfl, i0, i1⟩
end
end Go.Proofs.YtdjbejlbmaiocabGreatDoor
/-
  WALK: two(): the small model that all statements begin with.
-/
namespace Go.Proofs.YtdjbejlbmaiocabGreatDoor
open Go.RowKit

def twoM : Mod := ⟨[⟨⟨#[120]⟩, 0, 2⟩, ⟨⟨#[121]⟩, 0, 2⟩], [⟨1, [0, 1], [1, -1], -1, [], []⟩], 1, 1⟩
theorem two_checks : checkM twoM = 0 := by kernel_rfl

theorem five_blocks (w : World) (o1 o2 o3 o4 o5 : Obj) :
    (((((w.alloc o1).alloc o2).alloc o3).alloc o4).alloc o5).heap[w.heap.size + 1]? = some o2 ∧ (((((w.alloc o1).alloc o2).alloc o3).alloc o4).alloc o5).heap[w.heap.size + 1 + 1]? = some o3 ∧
    (((((w.alloc o1).alloc o2).alloc o3).alloc o4).alloc o5).heap[w.heap.size + 1 + 1 + 1]? = some o4 ∧ (((((w.alloc o1).alloc o2).alloc o3).alloc o4).alloc o5).heap[w.heap.size + 1 + 1 + 1 + 1]? = some o5 := by
  refine ⟨?_, ?_, ?_, ?_⟩
  all_goals
    show (((((w.heap.push _).push _).push _).push _).push _)[_]? = _
    simp only [Array.getElem?_push, Array.size_push]
    repeat first | rw [if_pos (by omega)] | rw [if_neg (by omega)]
  all_goals rfl

set_option maxHeartbeats 400000 in
set_option maxRecDepth 100000 in
theorem two_any (w : World) :
    Calls Tryz.prog 26 #[] w fun e w' => ∃ vs cs, e = .returned (modV vs cs twoM) ∧ MArg w' vs cs twoM ∧ Below w.heap.size w w' := by
  go_enter Tryz.func26, Tryz.ntmps26
  go_wp2
  refine bodyPost_ret (v := modV (.slice (some ⟨w.heap.size + 1, 0, none⟩) 2 2) (.slice (some ⟨w.heap.size + 1 + 1 + 1 + 1, 0, none⟩) 1 1) twoM) (by simp [results, Tryz.results26, go_sem, modV, twoM]) rfl ⟨_, _, rfl, ⟨?_, ?_⟩, ?_⟩
  · refine ⟨_, _, rfl, ⟨by decide, by unfold maxLen; decide⟩, fun i t ht => ?_⟩
    have hb := (five_blocks w (.cells #[.slice (some ⟨w.heap.size + 1, 0, none⟩) 2 2, .slice (some ⟨w.heap.size + 1 + 1 + 1 + 1, 0, none⟩) 1 1, .int .i64 1, .int .i64 1] 25) (.cells #[.string ⟨#[120]⟩, .int .i64 0, .int .i64 2, .string ⟨#[121]⟩, .int .i64 0, .int .i64 2] 47) (.cells #[.int .i64 0, .int .i64 1] 3) (.cells #[.int .i64 1, .int .i64 (-1)] 3) (.cells #[.int .i64 1, .slice (some ⟨w.heap.size + 1 + 1, 0, none⟩) 2 2, .slice (some ⟨w.heap.size + 1 + 1 + 1, 0, none⟩) 2 2, .int .i64 (-1), .slice none 0 0, .slice none 0 0] 54)).1
    match i, ht with
    | 0, ht => cases ht; exact ⟨by unfold maxLen; decide, _, _, rfl, by simp, by rw [Lib.cell_of_heap hb]; rfl, by rw [Lib.cell_of_heap hb]; rfl, by rw [Lib.cell_of_heap hb]; rfl⟩
    | 1, ht => cases ht; exact ⟨by unfold maxLen; decide, _, _, rfl, by simp, by rw [Lib.cell_of_heap hb]; rfl, by rw [Lib.cell_of_heap hb]; rfl, by rw [Lib.cell_of_heap hb]; rfl⟩
  · refine ⟨_, _, rfl, ⟨by decide, by unfold maxLen; decide⟩, fun i t ht => ?_⟩
    obtain ⟨_, hb2, hb3, hb4⟩ := five_blocks w (.cells #[.slice (some ⟨w.heap.size + 1, 0, none⟩) 2 2, .slice (some ⟨w.heap.size + 1 + 1 + 1 + 1, 0, none⟩) 1 1, .int .i64 1, .int .i64 1] 25) (.cells #[.string ⟨#[120]⟩, .int .i64 0, .int .i64 2, .string ⟨#[121]⟩, .int .i64 0, .int .i64 2] 47) (.cells #[.int .i64 0, .int .i64 1] 3) (.cells #[.int .i64 1, .int .i64 (-1)] 3) (.cells #[.int .i64 1, .slice (some ⟨w.heap.size + 1 + 1, 0, none⟩) 2 2, .slice (some ⟨w.heap.size + 1 + 1 + 1, 0, none⟩) 2 2, .int .i64 (-1), .slice none 0 0, .slice none 0 0] 54)
    match i, ht with
    | 0, ht =>
      cases ht
      refine ⟨_, _, .slice (some ⟨w.heap.size + 1 + 1, 0, none⟩) 2 2, .slice (some ⟨w.heap.size + 1 + 1 + 1, 0, none⟩) 2 2, .slice none 0 0, .slice none 0 0, rfl, by simp, by rw [Lib.cell_of_heap hb4]; rfl, by rw [Lib.cell_of_heap hb4]; rfl, by rw [Lib.cell_of_heap hb4]; rfl, by rw [Lib.cell_of_heap hb4]; rfl, by rw [Lib.cell_of_heap hb4]; rfl, by rw [Lib.cell_of_heap hb4]; rfl, ?_⟩
      refine ⟨⟨_, _, rfl, ⟨by decide, by unfold maxLen; decide⟩, fun i z hz => ?_⟩, ⟨_, _, rfl, ⟨by decide, by unfold maxLen; decide⟩, fun i z hz => ?_⟩, ⟨_, _, rfl, ⟨by decide, by unfold maxLen; decide⟩, fun i z hz => by simp at hz⟩, ⟨_, _, rfl, ⟨by decide, by unfold maxLen; decide⟩, fun i z hz => by simp at hz⟩⟩
      · match i, hz with
        | 0, hz => cases hz; exact ⟨_, _, rfl, by simp, by rw [Lib.cell_of_heap hb2]; rfl⟩
        | 1, hz => cases hz; exact ⟨_, _, rfl, by simp, by rw [Lib.cell_of_heap hb2]; rfl⟩
      · match i, hz with
        | 0, hz => cases hz; exact ⟨_, _, rfl, by simp, by rw [Lib.cell_of_heap hb3]; rfl⟩
        | 1, hz => cases hz; exact ⟨_, _, rfl, by simp, by rw [Lib.cell_of_heap hb3]; rfl⟩
  · exact (((((Below.refl _ _).alloc (Nat.le_refl _) _).alloc (by simp) _).alloc (by simp; omega) _).alloc (by simp; omega) _).alloc (by simp; omega) _
end Go.Proofs.YtdjbejlbmaiocabGreatDoor
/-
  PLAIN: stores, and what the program's calls say of them, as functions on data; no program in it.
-/
namespace Go.Proofs.YtdjbejlbmaiocabGreatDoor

abbrev Sto := List (List Int)
def insideB (v : MVar) (n : Int) : Bool := decide (v.lo ≤ n) && decide (n ≤ v.hi)
def risesB : List Int → Bool
  | a :: b :: r => decide (a < b) && risesB (b :: r)
  | _ => true
def rangeS (vs : List MVar) (s : Sto) : Bool := (vs.zip s).all fun p => p.2.all (insideB p.1)
def checkV (vs : List MVar) (s : Sto) : Int :=
  if s.length = vs.length then (if rangeS vs s then (if s.all risesB then 0 else 4) else 3) else 1
/-- What is wrong with a model, then with the stores, one after the other. -/
def checkL (m : Mod) (l : List Sto) : Int := if checkM m = 0 then firstE (l.map (checkV m.vars)) else checkM m
def hasB (l : List Int) (n : Int) : Bool := l.any (fun k => n == k)
def meetR (a b : List Int) : List Int := a.filter (hasB b)
def meetS (s t : Sto) : Sto := List.zipWith meetR s t
def withinR (a b : List Int) : Bool := a.all (hasB b)
def withinS (s t : Sto) : Bool := (s.zip t).all fun p => withinR p.1 p.2
def failedS (s : Sto) : Bool := s.any fun r => decide (r.length = 0)
def spanR (lo hi : Int) : List Int := (List.range (hi + 1 - lo).toNat).map fun (k : Nat) => lo + (k : Int)
def beginS (vs : List MVar) : Sto := vs.map fun v => spanR v.lo v.hi

theorem hasB_iff (l : List Int) (n : Int) : hasB l n = true ↔ n ∈ l := by
  unfold hasB; rw [List.any_eq_true]
  constructor
  · rintro ⟨k, hk, he⟩; rwa [beq_iff_eq.1 he]
  · intro h; exact ⟨n, h, by simp⟩
theorem withinR_iff (a b : List Int) : withinR a b = true ↔ ∀ n ∈ a, n ∈ b := by
  unfold withinR; rw [List.all_eq_true]
  exact ⟨fun h n hn => (hasB_iff b n).1 (h n hn), fun h n hn => (hasB_iff b n).2 (h n hn)⟩
theorem mem_meetR (a b : List Int) (n : Int) : n ∈ meetR a b ↔ n ∈ a ∧ n ∈ b := by
  unfold meetR; rw [List.mem_filter, hasB_iff]
theorem rises_pair (l : List Int) : risesB l = true ↔ l.Pairwise (· < ·) := by
  induction l with
  | nil => simp [risesB]
  | cons a r ih =>
    cases r with
    | nil => simp [risesB]
    | cons b r =>
      simp only [risesB, Bool.and_eq_true, decide_eq_true_eq]
      rw [ih]
      constructor
      · rintro ⟨hab, hp⟩
        refine List.pairwise_cons.2 ⟨fun c hc => ?_, hp⟩
        rcases List.mem_cons.1 hc with rfl | hc
        · exact hab
        · have := (List.pairwise_cons.1 hp).1 c hc; omega
      · intro hp
        exact ⟨(List.pairwise_cons.1 hp).1 b (List.mem_cons_self ..), (List.pairwise_cons.1 hp).2⟩
theorem meetS_len (s t : Sto) (h : t.length = s.length) : (meetS s t).length = s.length := by simp [meetS, h]
theorem meetS_get (s t : Sto) (i : Nat) (a b : List Int) (ha : s[i]? = some a) (hb : t[i]? = some b) : (meetS s t)[i]? = some (meetR a b) := by
  simp [meetS, List.getElem?_zipWith, ha, hb]

theorem all_zip {α β : Type} (p : α × β → Bool) : ∀ (a : List α) (b : List β), (a.zip b).all p = true ↔ ∀ (i : Nat) x y, a[i]? = some x → b[i]? = some y → p (x, y) = true
  | [], b => by simp
  | x :: a, [] => by simp
  | x :: a, y :: b => by
    rw [List.zip_cons_cons, List.all_cons, Bool.and_eq_true, all_zip p a b]
    constructor
    · rintro ⟨h0, h1⟩ i u v hu hv
      cases i with
      | zero => simp at hu hv; subst hu; subst hv; exact h0
      | succ i => exact h1 i u v (by simpa using hu) (by simpa using hv)
    · intro h
      exact ⟨h 0 x y rfl rfl, fun i u v hu hv => h (i + 1) u v (by simpa using hu) (by simpa using hv)⟩

theorem checkV_ok (vs : List MVar) (s : Sto) : checkV vs s = 0 ↔ s.length = vs.length ∧ rangeS vs s = true ∧ s.all risesB = true := by
  unfold checkV
  by_cases h1 : s.length = vs.length
  · cases h2 : rangeS vs s <;> cases h3 : s.all risesB <;> simp [h1]
  · simp [h1]
theorem checkV_meet (vs : List MVar) (s t : Sto) (hs : checkV vs s = 0) (ht : checkV vs t = 0) : checkV vs (meetS s t) = 0 := by
  rw [checkV_ok] at *
  obtain ⟨s1, s2, s3⟩ := hs
  obtain ⟨t1, t2, t3⟩ := ht
  have hl : t.length = s.length := by omega
  refine ⟨by rw [meetS_len s t hl, s1], ?_, ?_⟩
  · unfold rangeS at *
    rw [all_zip] at *
    intro i v r hv hr
    have hi : i < s.length := by rw [← meetS_len s t hl]; exact (List.getElem?_eq_some_iff.1 hr).1
    have ha : s[i]? = some s[i] := by simp [hi]
    have hb : t[i]? = some (t[i]'(by omega)) := by simp [show i < t.length by omega]
    rw [meetS_get s t i _ _ ha hb] at hr
    cases hr
    have h0 := s2 i v _ hv ha
    rw [List.all_eq_true] at h0 ⊢
    intro n hn
    exact h0 n ((mem_meetR _ _ _).1 hn).1
  · rw [List.all_eq_true] at *
    intro r hr
    obtain ⟨i, hi⟩ := List.mem_iff_getElem?.1 hr
    have hi' : i < s.length := by rw [← meetS_len s t hl]; exact (List.getElem?_eq_some_iff.1 hi).1
    have ha : s[i]? = some s[i] := by simp [hi']
    have hb : t[i]? = some (t[i]'(by omega)) := by simp [show i < t.length by omega]
    rw [meetS_get s t i _ _ ha hb] at hi
    cases hi
    rw [rises_pair]
    exact ((rises_pair _).1 (s3 _ (List.mem_of_getElem? ha))).sublist (List.filter_sublist)
theorem within_meet_l (s t : Sto) (hl : t.length = s.length) : withinS (meetS s t) s = true := by
  unfold withinS
  rw [all_zip]
  intro i r a hr ha
  have hi : i < s.length := (List.getElem?_eq_some_iff.1 ha).1
  have hb : t[i]? = some (t[i]'(by omega)) := by simp [show i < t.length by omega]
  rw [meetS_get s t i _ _ ha hb] at hr
  cases hr
  exact (withinR_iff _ _).2 fun n hn => ((mem_meetR _ _ _).1 hn).1
theorem within_meet_r (s t : Sto) (hl : t.length = s.length) : withinS (meetS s t) t = true := by
  unfold withinS
  rw [all_zip]
  intro i r b hr hb
  have hi : i < t.length := (List.getElem?_eq_some_iff.1 hb).1
  have ha : s[i]? = some (s[i]'(by omega)) := by simp [show i < s.length by omega]
  rw [meetS_get s t i _ _ ha hb] at hr
  cases hr
  exact (withinR_iff _ _).2 fun n hn => ((mem_meetR _ _ _).1 hn).2
theorem within_meet (s t u : Sto) (hl : t.length = s.length) (hu : u.length = s.length) : withinS u (meetS s t) = (withinS u s && withinS u t) := by
  rw [Bool.eq_iff_iff, Bool.and_eq_true]
  unfold withinS
  rw [all_zip, all_zip, all_zip]
  constructor
  · intro h
    refine ⟨fun i r a hr ha => ?_, fun i r b hr hb => ?_⟩
    · have hi : i < s.length := (List.getElem?_eq_some_iff.1 ha).1
      have hb : t[i]? = some (t[i]'(by omega)) := by simp [show i < t.length by omega]
      have := h i r _ hr (meetS_get s t i _ _ ha hb)
      exact (withinR_iff _ _).2 fun n hn => ((mem_meetR _ _ _).1 ((withinR_iff _ _).1 this n hn)).1
    · have hi : i < t.length := (List.getElem?_eq_some_iff.1 hb).1
      have ha : s[i]? = some (s[i]'(by omega)) := by simp [show i < s.length by omega]
      have := h i r _ hr (meetS_get s t i _ _ ha hb)
      exact (withinR_iff _ _).2 fun n hn => ((mem_meetR _ _ _).1 ((withinR_iff _ _).1 this n hn)).2
  · rintro ⟨h1, h2⟩ i r x hr hx
    have hi : i < s.length := by rw [← meetS_len s t hl]; exact (List.getElem?_eq_some_iff.1 hx).1
    have ha : s[i]? = some (s[i]'(by omega)) := by simp [hi]
    have hb : t[i]? = some (t[i]'(by omega)) := by simp [show i < t.length by omega]
    rw [meetS_get s t i _ _ ha hb] at hx
    cases hx
    refine (withinR_iff _ _).2 fun n hn => (mem_meetR _ _ _).2 ⟨?_, ?_⟩
    · exact (withinR_iff _ _).1 (h1 i r _ hr ha) n hn
    · exact (withinR_iff _ _).1 (h2 i r _ hr hb) n hn
end Go.Proofs.YtdjbejlbmaiocabGreatDoor
/-
  PLAIN: the store of those values that stay.
-/
namespace Go.Proofs.YtdjbejlbmaiocabGreatDoor

def siftS (s : Sto) (p : Nat → Int → Bool) : Sto := s.mapIdx fun k r => r.filter (p k)
theorem siftS_len (s : Sto) (p : Nat → Int → Bool) : (siftS s p).length = s.length := by simp [siftS]
theorem siftS_get (s : Sto) (p : Nat → Int → Bool) (k : Nat) (r : List Int) (h : s[k]? = some r) : (siftS s p)[k]? = some (r.filter (p k)) := by
  simp [siftS, h]
theorem siftS_back (s : Sto) (p : Nat → Int → Bool) (k : Nat) (q : List Int) (h : (siftS s p)[k]? = some q) : ∃ r, s[k]? = some r ∧ q = r.filter (p k) := by
  have hk : k < s.length := by rw [← siftS_len s p]; exact (List.getElem?_eq_some_iff.1 h).1
  refine ⟨s[k], by simp [hk], ?_⟩
  rw [siftS_get s p k s[k] (by simp [hk])] at h
  exact (Option.some.inj h).symm
theorem sto_ext (s t : Sto) (hl : s.length = t.length) (h : ∀ (k : Nat) r q, s[k]? = some r → t[k]? = some q → r = q) : s = t := by
  apply List.ext_getElem? 
  intro k
  by_cases hk : k < s.length
  · have h1 : s[k]? = some s[k] := by simp [hk]
    have h2 : t[k]? = some (t[k]'(by omega)) := by simp [show k < t.length by omega]
    rw [h1, h2, h k _ _ h1 h2]
  · rw [List.getElem?_eq_none (by omega), List.getElem?_eq_none (by omega)]
theorem checkV_sift (vs : List MVar) (s : Sto) (p : Nat → Int → Bool) (hs : checkV vs s = 0) : checkV vs (siftS s p) = 0 := by
  rw [checkV_ok] at *
  obtain ⟨s1, s2, s3⟩ := hs
  refine ⟨by rw [siftS_len, s1], ?_, ?_⟩
  · unfold rangeS at *
    rw [all_zip] at *
    intro i v r hv hr
    obtain ⟨q, hq, rfl⟩ := siftS_back s p i r hr
    have h0 := s2 i v q hv hq
    rw [List.all_eq_true] at h0 ⊢
    intro n hn
    exact h0 n (List.mem_filter.1 hn).1
  · rw [List.all_eq_true] at *
    intro r hr
    obtain ⟨i, hi⟩ := List.mem_iff_getElem?.1 hr
    obtain ⟨q, hq, rfl⟩ := siftS_back s p i r hi
    rw [rises_pair]
    exact ((rises_pair _).1 (s3 _ (List.mem_of_getElem? hq))).sublist List.filter_sublist
theorem within_sift (s : Sto) (p : Nat → Int → Bool) : withinS (siftS s p) s = true := by
  unfold withinS
  rw [all_zip]
  intro i r a hr ha
  obtain ⟨q, hq, rfl⟩ := siftS_back s p i r hr
  rw [ha] at hq; cases hq
  exact (withinR_iff _ _).2 fun n hn => (List.mem_filter.1 hn).1
theorem meetS_sift (s t : Sto) (h : t.length = s.length) : meetS s t = siftS s fun k z => hasB (t.getD k []) z := by
  refine sto_ext _ _ (by rw [meetS_len s t h, siftS_len]) fun k r q hr hq => ?_
  obtain ⟨a, ha, rfl⟩ := siftS_back _ _ _ _ hq
  have hk : k < s.length := (List.getElem?_eq_some_iff.1 ha).1
  have hb : t[k]? = some (t[k]'(by omega)) := by simp [show k < t.length by omega]
  rw [meetS_get s t k _ _ ha hb] at hr
  cases hr
  unfold meetR
  rw [List.getD_eq_getElem?_getD, hb]; rfl
def hasS (s : Sto) (vals : List Int) : Bool := decide (s.length = vals.length) && (s.zip vals).all fun p => hasB p.1 p.2
theorem hasS_iff (s : Sto) (vals : List Int) : hasS s vals = true ↔ s.length = vals.length ∧ ∀ (k : Nat) r x, s[k]? = some r → vals[k]? = some x → x ∈ r := by
  unfold hasS
  rw [Bool.and_eq_true, decide_eq_true_eq, all_zip]
  exact ⟨fun h => ⟨h.1, fun k r x hr hx => (hasB_iff _ _).1 (h.2 k r x hr hx)⟩, fun h => ⟨h.1, fun k r x hr hx => (hasB_iff _ _).2 (h.2 k r x hr hx)⟩⟩
end Go.Proofs.YtdjbejlbmaiocabGreatDoor
/-
  PLAIN: literals, and what the program's calls say of them; that a literal and its opposite part the values.
-/
namespace Go.Proofs.YtdjbejlbmaiocabGreatDoor

def litE (vs : List MVar) (l : MLit) : Int :=
  if l.var < 0 ∨ (vs.length : Int) ≤ l.var then 5 else if l.op < 1 ∨ 4 < l.op then 7 else if l.n < -1000 ∨ 1000 < l.n then 3 else 0
def lcheckA (m : Mod) (l : MLit) : Int := if checkM m = 0 then litE m.vars l else checkM m
def lholdsA (m : Mod) (l : MLit) (x : Int) : Bool × Int := if lcheckA m l = 0 then (litV x l, 0) else (false, lcheckA m l)
def oppL (l : MLit) : MLit := if l.op = 1 then ⟨l.var, 2, l.n + 1⟩ else if l.op = 2 then ⟨l.var, 1, l.n - 1⟩ else if l.op = 3 then ⟨l.var, 4, l.n⟩ else ⟨l.var, 3, l.n⟩
def noLit : MLit := ⟨0, 0, 0⟩
def lnotA (m : Mod) (l : MLit) : MLit × Int :=
  if lcheckA m l = 0 then (if litE m.vars (oppL l) = 0 then (oppL l, 0) else (noLit, litE m.vars (oppL l))) else (noLit, lcheckA m l)
def linE (m : Mod) (s : Sto) (l : MLit) : Int := if checkL m [s] = 0 then litE m.vars l else checkL m [s]
def heldN (r : List Int) (l : MLit) : Nat := (r.filter fun x => litV x l).length
def toldR (r : List Int) (l : MLit) : Int := if heldN r l = 0 then -1 else if heldN r l = r.length then 1 else 0
def rowOf (s : Sto) (l : MLit) : List Int := s.getD l.var.toNat []
def ltoldA (m : Mod) (s : Sto) (l : MLit) : Int × Int := if linE m s l = 0 then (toldR (rowOf s l) l, 0) else (0, linE m s l)
def putB (l : MLit) (k : Nat) (z : Int) : Bool := decide ((k : Int) ≠ l.var) || litV z l
def putS (s : Sto) (l : MLit) : Sto := siftS s (putB l)
def lputA (m : Mod) (s : Sto) (l : MLit) : Sto × Int := if linE m s l = 0 then (putS s l, 0) else ([], linE m s l)

theorem litE_ok (vs : List MVar) (l : MLit) : litE vs l = 0 ↔ (0 ≤ l.var ∧ l.var < vs.length) ∧ (1 ≤ l.op ∧ l.op ≤ 4) ∧ (-1000 ≤ l.n ∧ l.n ≤ 1000) := by
  unfold litE
  split
  · constructor
    · intro h; cases h
    · intro h; omega
  · split
    · constructor
      · intro h; cases h
      · intro h; omega
    · split
      · constructor
        · intro h; cases h
        · intro h; omega
      · constructor
        · intro _; omega
        · intro _; rfl
theorem oppL_var (l : MLit) : (oppL l).var = l.var := by
  unfold oppL
  split
  · rfl
  · split
    · rfl
    · split <;> rfl
theorem oppL_op (l : MLit) : 1 ≤ (oppL l).op ∧ (oppL l).op ≤ 4 := by
  unfold oppL
  split
  · simp
  · split
    · simp
    · split <;> simp
theorem litV_opp (x : Int) (l : MLit) (h : 1 ≤ l.op ∧ l.op ≤ 4) : litV x (oppL l) = !litV x l := by
  rcases (show l.op = 1 ∨ l.op = 2 ∨ l.op = 3 ∨ l.op = 4 by omega) with h | h | h | h
  · simp only [oppL, litV, h]
    simp
    by_cases q : x ≤ l.n
    · rw [decide_eq_true q, decide_eq_false (by omega)]; rfl
    · rw [decide_eq_false q, decide_eq_true (by omega)]; rfl
  · simp only [oppL, litV, h]
    simp
    by_cases q : l.n ≤ x
    · rw [decide_eq_true q, decide_eq_false (by omega)]; rfl
    · rw [decide_eq_false q, decide_eq_true (by omega)]; rfl
  · simp only [oppL, litV, h]
    simp [bne]
  · simp only [oppL, litV, h]
    simp [bne]
theorem linE_ok (m : Mod) (s : Sto) (l : MLit) (h : linE m s l = 0) : checkL m [s] = 0 ∧ litE m.vars l = 0 := by
  unfold linE at h
  split at h
  · rename_i h0; exact ⟨h0, h⟩
  · contradiction
theorem checkL_one (m : Mod) (s : Sto) : checkL m [s] = 0 ↔ checkM m = 0 ∧ checkV m.vars s = 0 := by
  unfold checkL
  by_cases h : checkM m = 0
  · rw [if_pos h]
    simp only [List.map, firstE]
    by_cases h1 : checkV m.vars s = 0
    · simp [h, h1]
    · simp [h1]
  · rw [if_neg h]; simp [h]
theorem put_row (s : Sto) (l : MLit) (i : Nat) (hi : l.var = (i : Int)) (r : List Int) (hr : s[i]? = some r) : (putS s l)[i]? = some (r.filter fun z => litV z l) := by
  unfold putS
  rw [siftS_get s _ i r hr]
  congr 1
  refine List.filter_congr fun z _ => ?_
  unfold putB
  rw [hi]; simp
theorem held_parts (r : List Int) (l : MLit) (h : 1 ≤ l.op ∧ l.op ≤ 4) : heldN r l + heldN r (oppL l) = r.length := by
  unfold heldN
  induction r with
  | nil => rfl
  | cons a r ih =>
    rw [List.filter_cons, List.filter_cons, litV_opp a l h]
    cases litV a l <;> simp <;> omega
theorem lcheck_ok (m : Mod) (l : MLit) (h : lcheckA m l = 0) : checkM m = 0 ∧ litE m.vars l = 0 := by
  unfold lcheckA at h
  split at h
  · rename_i h0; exact ⟨h0, h⟩
  · contradiction
end Go.Proofs.YtdjbejlbmaiocabGreatDoor
/-
  WALKS: the reference's check of a model: inConst, CheckLit.
-/
namespace Go.Proofs.YtdjbejlbmaiocabGreatDoor
open Go.RowKit

set_option maxHeartbeats 400000 in
theorem inconst_any (n : Int) (w : World) :
    Calls Tryz.prog 62 #[.int .i64 n] w fun e w' => e = .returned (.bool (isConstB n)) ∧ w' = w := by
  obtain ⟨B, hB⟩ : ∃ B, isConstB n = B := ⟨_, rfl⟩
  have HB : Hid ((decide (-1000 ≤ n) && decide (n ≤ 1000)) = B) := hB
  rw [hB]
  clear hB
  go_enter Tryz.func62, Tryz.ntmps62
  go_wp2_with fail
  refine (between_any _ _ _ _).mono ?_
  rintro e w ⟨rfl, rfl⟩
  rw [HB.out]
  go_wp2
  go_ret
  exact ⟨rfl, rfl⟩
set_option maxHeartbeats 1600000 in
set_option maxRecDepth 100000 in
theorem rchecklit_any (m : Mod) (l : MLit) (a : Option Addr) (cap : Nat) (cs : Value) (w : World) (hm : m.vars.length ≤ maxLen) :
    Calls Tryz.prog 63 #[.agg #[.slice a m.vars.length cap, cs, .int .i64 m.goal, .int .i64 m.var], .agg #[.int .i64 l.var, .int .i64 l.op, .int .i64 l.n]] w fun e w' => e = .returned (.int .i64 (litE m.vars l)) ∧ Below w.heap.size w w' := by
  obtain ⟨E, hE⟩ : ∃ E, litE m.vars l = E := ⟨_, rfl⟩
  have HE : Hid (E = if l.var < 0 ∨ (m.vars.length : Int) ≤ l.var then 5 else if l.op < 1 ∨ 4 < l.op then 7 else if l.n < -1000 ∨ 1000 < l.n then 3 else 0) := by show _ = _; rw [← hE]; rfl
  rw [hE]
  have HB : Hid (Below w.heap.size w ((w.alloc (.cells #[.slice a m.vars.length cap, cs, .int .i64 m.goal, .int .i64 m.var] 25)).alloc (.cells #[.int .i64 l.var, .int .i64 l.op, .int .i64 l.n] 76))) := (below_alloc _ _).alloc (by simp) _
  unfold maxLen at hm
  clear hE
  go_enter Tryz.func63, Tryz.ntmps63
  go_wp2_with fail
  refine (between_any _ _ _ _).mono ?_
  rintro e wq ⟨rfl, rfl⟩
  by_cases h1 : l.var < 0 ∨ (m.vars.length : Int) ≤ l.var
  · have HN : Hid (E = 5) := by show _ = _; rw [HE.out, if_pos h1]
    have q : (decide (0 ≤ l.var) && decide (l.var ≤ (m.vars.length : Int) - 1)) = false := by rw [Bool.and_eq_false_iff]; simp; omega
    rw [q]
    go_wp2
    go_ret
    exact ⟨by rw [HN.out]; rfl, HB.out⟩
  · have q : (decide (0 ≤ l.var) && decide (l.var ≤ (m.vars.length : Int) - 1)) = true := by rw [Bool.and_eq_true]; simp; omega
    rw [q]
    go_wp2_with fail
    refine (between_any _ _ _ _).mono ?_
    rintro e wq ⟨rfl, rfl⟩
    by_cases h2 : l.op < 1 ∨ 4 < l.op
    · have HN : Hid (E = 7) := by show _ = _; rw [HE.out, if_neg h1, if_pos h2]
      have q : (decide (1 ≤ l.op) && decide (l.op ≤ 4)) = false := by rw [Bool.and_eq_false_iff]; simp; omega
      rw [q]
      go_wp2
      go_ret
      exact ⟨by rw [HN.out]; rfl, HB.out⟩
    · have q : (decide (1 ≤ l.op) && decide (l.op ≤ 4)) = true := by rw [Bool.and_eq_true]; simp; omega
      rw [q]
      go_wp2_with fail
      refine (inconst_any _ _).mono ?_
      rintro e wq ⟨rfl, rfl⟩
      by_cases h3 : l.n < -1000 ∨ 1000 < l.n
      · have HN : Hid (E = 3) := by show _ = _; rw [HE.out, if_neg h1, if_neg h2, if_pos h3]
        have q : isConstB l.n = false := by unfold isConstB inB; rw [Bool.and_eq_false_iff]; simp; omega
        rw [q]
        go_wp2
        go_ret
        exact ⟨by rw [HN.out]; rfl, HB.out⟩
      · have HN : Hid (E = 0) := by show _ = _; rw [HE.out, if_neg h1, if_neg h2, if_neg h3]
        have q : isConstB l.n = true := by unfold isConstB inB; rw [Bool.and_eq_true]; simp; omega
        rw [q]
        go_wp2
        go_ret
        exact ⟨by rw [HN.out]; rfl, HB.out⟩
end Go.Proofs.YtdjbejlbmaiocabGreatDoor
/-
  WALK: the reference's check of a model: rightForm. (Made by genrcb.py.)
-/
namespace Go.Proofs.YtdjbejlbmaiocabGreatDoor
open Go.RowKit

set_option maxHeartbeats 4000000 in
set_option maxRecDepth 100000 in
theorem rform_any (c : MCon) (vv vc vr vl : Value) (w : World) (hk : KArg w vv vc vr vl c) (h10 : 1 ≤ c.kind ∧ c.kind ≤ 10) (l1 : c.vars.length ≤ 4) (l2 : c.consts.length ≤ 8) (l3 : c.rows.length ≤ 20) (l4 : c.lits.length ≤ 4) :
    Calls Tryz.prog 61 #[conV vv vc vr vl c] w fun e w' => e = .returned (.bool (formB c)) ∧ Below w.heap.size w w' := by
  obtain ⟨⟨a1, c1, rfl, _, _⟩, ⟨a2, c2, rfl, _, _⟩, hr, ⟨a4, c4, rfl, _, _⟩⟩ := hk
  have HRR : Hid (∀ w' : World, Below w.heap.size w w' → RArg w' vr c.rows) := fun w' h => RArg.below h hr
  obtain ⟨a3, c3, rfl, _, _⟩ := hr
  obtain ⟨R, hR⟩ : ∃ R, formB c = R := ⟨_, rfl⟩
  rw [hR]
  unfold formB at hR
  unfold conV
  obtain ⟨k, hkk⟩ : ∃ k, c.kind = k := ⟨_, rfl⟩
  rw [hkk] at hR h10 ⊢
  have hcases : k = 1 ∨ k = 2 ∨ k = 3 ∨ k = 4 ∨ k = 5 ∨ k = 6 ∨ k = 7 ∨ k = 8 ∨ k = 9 ∨ k = 10 := by omega
  clear h10
  rcases hcases with rfl | rfl | rfl | rfl | rfl | rfl | rfl | rfl | rfl | rfl
  · have HR : Hid (R = (decide (1 ≤ c.vars.length) && (decide (c.consts.length = c.vars.length) && decide (c.rows.length + c.lits.length = 0)))) := by show _ = _; rw [← hR, if_pos (by decide)]
    clear hR hkk
    go_enter Tryz.func61, Tryz.ntmps61
    go_wp2
    go_quiet (fail)
    go_wp2
    all_goals
      go_ret
      refine ⟨ret_bool ?_, below_drewN (below_alloc _ _) _⟩
      rw [HR.out]
      clear HR HRR
      first
        | rfl
        | (try simp only [beq_eq_false_iff_ne, beq_iff_eq, ne_eq] at *
           try simp only [← List.length_eq_zero_iff] at *
           rw [Bool.eq_iff_iff]
           simp only [Bool.and_eq_true, decide_eq_true_eq, beq_iff_eq, Bool.false_eq_true, false_iff]
           omega)
  · have HR : Hid (R = (decide (1 ≤ c.vars.length) && (decide (c.consts.length = c.vars.length) && decide (c.rows.length + c.lits.length = 0)))) := by show _ = _; rw [← hR, if_pos (by decide)]
    clear hR hkk
    go_enter Tryz.func61, Tryz.ntmps61
    go_wp2
    go_quiet (fail)
    go_wp2
    all_goals
      go_ret
      refine ⟨ret_bool ?_, below_drewN (below_alloc _ _) _⟩
      rw [HR.out]
      clear HR HRR
      first
        | rfl
        | (try simp only [beq_eq_false_iff_ne, beq_iff_eq, ne_eq] at *
           try simp only [← List.length_eq_zero_iff] at *
           rw [Bool.eq_iff_iff]
           simp only [Bool.and_eq_true, decide_eq_true_eq, beq_iff_eq, Bool.false_eq_true, false_iff]
           omega)
  · have HR : Hid (R = (decide (1 ≤ c.vars.length) && (decide (c.consts.length = c.vars.length) && decide (c.rows.length + c.lits.length = 0)))) := by show _ = _; rw [← hR, if_pos (by decide)]
    clear hR hkk
    go_enter Tryz.func61, Tryz.ntmps61
    go_wp2
    go_quiet (fail)
    go_wp2
    all_goals
      go_ret
      refine ⟨ret_bool ?_, below_drewN (below_alloc _ _) _⟩
      rw [HR.out]
      clear HR HRR
      first
        | rfl
        | (try simp only [beq_eq_false_iff_ne, beq_iff_eq, ne_eq] at *
           try simp only [← List.length_eq_zero_iff] at *
           rw [Bool.eq_iff_iff]
           simp only [Bool.and_eq_true, decide_eq_true_eq, beq_iff_eq, Bool.false_eq_true, false_iff]
           omega)
  · rw [if_neg (by decide)] at hR
    by_cases hn : c.n = 0
    · have hn0 : (c.n != 0) = false := by simpa using hn
      have HR : Hid (R = (decide (1 ≤ c.vars.length) && decide (c.consts.length + c.rows.length + c.lits.length = 0))) := by show _ = _; rw [← hR, if_neg (fun h => h hn)]; simp only [if_true]
      clear hR hkk hn
      go_enter Tryz.func61, Tryz.ntmps61
      go_wp2
      go_quiet (fail)
      go_wp2
      all_goals
        go_ret
        refine ⟨ret_bool ?_, below_drewN (below_alloc _ _) _⟩
        rw [HR.out]
        clear HR HRR
        first
          | rfl
          | (try simp only [beq_eq_false_iff_ne, beq_iff_eq, ne_eq] at *
             try simp only [← List.length_eq_zero_iff] at *
             rw [Bool.eq_iff_iff]
             simp only [Bool.and_eq_true, decide_eq_true_eq, beq_iff_eq, Bool.false_eq_true, false_iff]
             omega)
    · have hn0 : (c.n != 0) = true := by simpa using hn
      have HR : Hid (R = false) := by show _ = _; rw [← hR, if_pos hn]
      clear hR hkk hn
      go_enter Tryz.func61, Tryz.ntmps61
      go_wp2
      go_quiet (fail)
      go_wp2
      go_ret
      exact ⟨ret_bool HR.out.symm, below_drewN (below_alloc _ _) _⟩
  · rw [if_neg (by decide)] at hR
    by_cases hn : c.n = 0
    · have hn0 : (c.n != 0) = false := by simpa using hn
      have HR : Hid (R = (decide (c.vars.length = 2) && (decide (1 ≤ c.consts.length) && decide (c.rows.length + c.lits.length = 0)))) := by show _ = _; rw [← hR, if_neg (fun h => h hn)]; simp only [show ¬ ((5 : Int) = 4) by decide, if_true, if_false]
      clear hR hkk hn
      go_enter Tryz.func61, Tryz.ntmps61
      go_wp2
      go_quiet (fail)
      go_wp2
      all_goals
        go_ret
        refine ⟨ret_bool ?_, below_drewN (below_alloc _ _) _⟩
        rw [HR.out]
        clear HR HRR
        first
          | rfl
          | (try simp only [beq_eq_false_iff_ne, beq_iff_eq, ne_eq] at *
             try simp only [← List.length_eq_zero_iff] at *
             rw [Bool.eq_iff_iff]
             simp only [Bool.and_eq_true, decide_eq_true_eq, beq_iff_eq, Bool.false_eq_true, false_iff]
             omega)
    · have hn0 : (c.n != 0) = true := by simpa using hn
      have HR : Hid (R = false) := by show _ = _; rw [← hR, if_pos hn]
      clear hR hkk hn
      go_enter Tryz.func61, Tryz.ntmps61
      go_wp2
      go_quiet (fail)
      go_wp2
      go_ret
      exact ⟨ret_bool HR.out.symm, below_drewN (below_alloc _ _) _⟩
  · rw [if_neg (by decide)] at hR
    by_cases hn : c.n = 0
    · have hn0 : (c.n != 0) = false := by simpa using hn
      have HR : Hid (R = (decide (1 ≤ c.vars.length) && (decide (c.consts.length + c.lits.length = 0) && c.rows.all fun r => decide (r.length = c.vars.length)))) := by show _ = _; rw [← hR, if_neg (fun h => h hn)]; simp only [show ¬ ((6 : Int) = 4) by decide, show ¬ ((6 : Int) = 5) by decide, if_true, if_false]
      clear hR hkk hn
      go_enter Tryz.func61, Tryz.ntmps61
      go_wp2
      go_quiet (fail)
      go_wp2
      have HBW : Hid (Below w.heap.size w ((w.alloc (.cells #[.int .i64 6, .slice a1 c.vars.length c1, .slice a2 c.consts.length c2, .int .i64 c.n, .slice a3 c.rows.length c3, .slice a4 c.lits.length c4] 54)).drewN nq)) := below_drewN (below_alloc _ _) _
      have k4 : ((w.alloc (.cells #[.int .i64 6, .slice a1 c.vars.length c1, .slice a2 c.consts.length c2, .int .i64 c.n, .slice a3 c.rows.length c3, .slice a4 c.lits.length c4] 54)).drewN nq).cell? ⟨w.heap.size, 4, none⟩ = some (.slice a3 c.rows.length c3) := by simp
      obtain ⟨W, hW⟩ : ∃ W, ((w.alloc (.cells #[.int .i64 6, .slice a1 c.vars.length c1, .slice a2 c.consts.length c2, .int .i64 c.n, .slice a3 c.rows.length c3, .slice a4 c.lits.length c4] 54)).drewN nq) = W := ⟨_, rfl⟩
      rw [hW] at HBW k4 ⊢
      clear hW
      have hRA := HRR.out W HBW.out
      clear HRR
      obtain ⟨a9, c9, e9, hm, hr⟩ := hRA
      injection e9 with e91 _ e92
      subst e91 e92
      have HV : Hid (∀ (i : Nat) (r : List Int), c.rows[i]? = some r → ∃ b off x, a3 = some ⟨b, off, none⟩ ∧ b < W.heap.size ∧ W.cell? ⟨b, off + i, none⟩ = some x ∧ IArg W x r) := hr
      unfold maxLen at hm
      obtain ⟨hm1, hm⟩ := hm
      clear hr
      go_loop [7] (fun i => ∃ m : Nat, m ≤ c.rows.length ∧ i = .int .i64 m ∧ Hid ((c.rows.take m).all (fun r => decide (r.length = c.vars.length)) = true)) (fun i => c.rows.length - (intOf i).toNat)
      case atStart => exact ⟨0, by omega, rfl, rfl⟩
      case round =>
        obtain ⟨m, hml, rfl, hall⟩ := hrel
        by_cases hlt : m < c.rows.length
        · obtain ⟨z, hz⟩ : ∃ z, c.rows[m]? = some z := ⟨c.rows[m], by simp [hlt]⟩
          obtain ⟨b, off, x, ha, hb, hc, hx⟩ := HV.out m z hz
          obtain ⟨a9, c9, rfl, hm2, _⟩ := hx
          have HZ : Hid (c.rows[m]? = some z) := hz
          subst ha
          clear hz hm2
          by_cases hq : z.length = c.vars.length
          · have HN : Hid ((c.rows.take (m + 1)).all (fun r => decide (r.length = c.vars.length)) = true) := all_next _ c.rows m z HZ.out hall.out (decide_eq_true hq)
            have hq2 : ((z.length : Int) != (c.vars.length : Int)) = false := by simp [hq]
            clear hq
            go_wp2
            go_round
            case rel => exact ⟨m + 1, by omega, by go_num, HN⟩
            case measure => simp [intOf]; omega
          · have HN : Hid (R = false) := by show _ = _; rw [HR.out, all_hit _ c.rows m z HZ.out (decide_eq_false hq)]; simp
            have hq2 : ((z.length : Int) != (c.vars.length : Int)) = true := by simp; omega
            clear hq
            go_wp2
            go_ret
            exact ⟨ret_bool HN.out.symm, HBW.out⟩
        · have HN : Hid (R = (decide (1 ≤ c.vars.length) && decide (c.consts.length + c.lits.length = 0))) := by show _ = _; rw [HR.out, all_end _ c.rows m hlt hall.out]; simp
          clear HV hall HR k4
          go_wp2
          all_goals
            go_ret
            refine ⟨ret_bool ?_, HBW.out⟩
            rw [HN.out]
            clear HN HBW
            first
              | rfl
              | (try simp only [beq_eq_false_iff_ne, beq_iff_eq, ne_eq] at *
                 try simp only [← List.length_eq_zero_iff] at *
                 rw [Bool.eq_iff_iff]
                 simp only [Bool.and_eq_true, decide_eq_true_eq, beq_iff_eq, Bool.false_eq_true, false_iff]
                 omega)
    · have hn0 : (c.n != 0) = true := by simpa using hn
      have HR : Hid (R = false) := by show _ = _; rw [← hR, if_pos hn]
      clear hR hkk hn
      go_enter Tryz.func61, Tryz.ntmps61
      go_wp2
      go_quiet (fail)
      go_wp2
      go_ret
      exact ⟨ret_bool HR.out.symm, below_drewN (below_alloc _ _) _⟩
  · rw [if_neg (by decide)] at hR
    by_cases hn : c.n = 0
    · have hn0 : (c.n != 0) = false := by simpa using hn
      have HR : Hid (R = (decide (c.vars.length = 3) && decide (c.consts.length + c.rows.length + c.lits.length = 0))) := by show _ = _; rw [← hR, if_neg (fun h => h hn)]; simp only [show ¬ ((7 : Int) = 4) by decide, show ¬ ((7 : Int) = 5) by decide, show ¬ ((7 : Int) = 6) by decide, if_true, if_false]
      clear hR hkk hn
      go_enter Tryz.func61, Tryz.ntmps61
      go_wp2
      go_quiet (fail)
      go_wp2
      all_goals
        go_ret
        refine ⟨ret_bool ?_, below_drewN (below_alloc _ _) _⟩
        rw [HR.out]
        clear HR HRR
        first
          | rfl
          | (try simp only [beq_eq_false_iff_ne, beq_iff_eq, ne_eq] at *
             try simp only [← List.length_eq_zero_iff] at *
             rw [Bool.eq_iff_iff]
             simp only [Bool.and_eq_true, decide_eq_true_eq, beq_iff_eq, Bool.false_eq_true, false_iff]
             omega)
    · have hn0 : (c.n != 0) = true := by simpa using hn
      have HR : Hid (R = false) := by show _ = _; rw [← hR, if_pos hn]
      clear hR hkk hn
      go_enter Tryz.func61, Tryz.ntmps61
      go_wp2
      go_quiet (fail)
      go_wp2
      go_ret
      exact ⟨ret_bool HR.out.symm, below_drewN (below_alloc _ _) _⟩
  · rw [if_neg (by decide)] at hR
    by_cases hn : c.n = 0
    · have hn0 : (c.n != 0) = false := by simpa using hn
      have HR : Hid (R = (decide (2 ≤ c.vars.length) && decide (c.consts.length + c.rows.length + c.lits.length = 0))) := by show _ = _; rw [← hR, if_neg (fun h => h hn)]; simp only [show ¬ ((8 : Int) = 4) by decide, show ¬ ((8 : Int) = 5) by decide, show ¬ ((8 : Int) = 6) by decide, show ¬ ((8 : Int) = 7) by decide, if_true, if_false]
      clear hR hkk hn
      go_enter Tryz.func61, Tryz.ntmps61
      go_wp2
      go_quiet (fail)
      go_wp2
      all_goals
        go_ret
        refine ⟨ret_bool ?_, below_drewN (below_alloc _ _) _⟩
        rw [HR.out]
        clear HR HRR
        first
          | rfl
          | (try simp only [beq_eq_false_iff_ne, beq_iff_eq, ne_eq] at *
             try simp only [← List.length_eq_zero_iff] at *
             rw [Bool.eq_iff_iff]
             simp only [Bool.and_eq_true, decide_eq_true_eq, beq_iff_eq, Bool.false_eq_true, false_iff]
             omega)
    · have hn0 : (c.n != 0) = true := by simpa using hn
      have HR : Hid (R = false) := by show _ = _; rw [← hR, if_pos hn]
      clear hR hkk hn
      go_enter Tryz.func61, Tryz.ntmps61
      go_wp2
      go_quiet (fail)
      go_wp2
      go_ret
      exact ⟨ret_bool HR.out.symm, below_drewN (below_alloc _ _) _⟩
  · rw [if_neg (by decide)] at hR
    by_cases hn : c.n = 0
    · have hn0 : (c.n != 0) = false := by simpa using hn
      have HR : Hid (R = (decide (c.vars.length + c.consts.length + c.rows.length = 0))) := by show _ = _; rw [← hR, if_neg (fun h => h hn)]; simp only [show ¬ ((9 : Int) = 4) by decide, show ¬ ((9 : Int) = 5) by decide, show ¬ ((9 : Int) = 6) by decide, show ¬ ((9 : Int) = 7) by decide, show ¬ ((9 : Int) = 8) by decide, if_true, if_false]
      clear hR hkk hn
      go_enter Tryz.func61, Tryz.ntmps61
      go_wp2
      go_quiet (fail)
      go_wp2
      all_goals
        go_ret
        refine ⟨ret_bool ?_, below_drewN (below_alloc _ _) _⟩
        rw [HR.out]
        clear HR HRR
        first
          | rfl
          | (try simp only [beq_eq_false_iff_ne, beq_iff_eq, ne_eq] at *
             try simp only [← List.length_eq_zero_iff] at *
             rw [Bool.eq_iff_iff]
             simp only [decide_eq_true_eq, beq_iff_eq, Bool.false_eq_true, false_iff]
             omega)
    · have hn0 : (c.n != 0) = true := by simpa using hn
      have HR : Hid (R = false) := by show _ = _; rw [← hR, if_pos hn]
      clear hR hkk hn
      go_enter Tryz.func61, Tryz.ntmps61
      go_wp2
      go_quiet (fail)
      go_wp2
      go_ret
      exact ⟨ret_bool HR.out.symm, below_drewN (below_alloc _ _) _⟩
  · rw [if_neg (by decide)] at hR
    by_cases hn : c.n = 0
    · have hn0 : (c.n != 0) = false := by simpa using hn
      have HR : Hid (R = (decide (c.vars.length = 1) && (decide (c.lits.length = 1) && decide (c.consts.length + c.rows.length = 0)))) := by show _ = _; rw [← hR, if_neg (fun h => h hn)]; simp only [show ¬ ((10 : Int) = 4) by decide, show ¬ ((10 : Int) = 5) by decide, show ¬ ((10 : Int) = 6) by decide, show ¬ ((10 : Int) = 7) by decide, show ¬ ((10 : Int) = 8) by decide, show ¬ ((10 : Int) = 9) by decide, if_true, if_false]
      clear hR hkk hn
      go_enter Tryz.func61, Tryz.ntmps61
      go_wp2
      go_quiet (fail)
      go_wp2
      all_goals
        go_ret
        refine ⟨ret_bool ?_, below_drewN (below_alloc _ _) _⟩
        rw [HR.out]
        clear HR HRR
        first
          | rfl
          | (try simp only [beq_eq_false_iff_ne, beq_iff_eq, ne_eq] at *
             try simp only [← List.length_eq_zero_iff] at *
             rw [Bool.eq_iff_iff]
             simp only [Bool.and_eq_true, decide_eq_true_eq, beq_iff_eq, Bool.false_eq_true, false_iff]
             omega)
    · have hn0 : (c.n != 0) = true := by simpa using hn
      have HR : Hid (R = false) := by show _ = _; rw [← hR, if_pos hn]
      clear hR hkk hn
      go_enter Tryz.func61, Tryz.ntmps61
      go_wp2
      go_quiet (fail)
      go_wp2
      go_ret
      exact ⟨ret_bool HR.out.symm, below_drewN (below_alloc _ _) _⟩
end Go.Proofs.YtdjbejlbmaiocabGreatDoor
/-
  WALK: the reference's check of a model: checkCon. (Made by genrcc.py.)
-/
namespace Go.Proofs.YtdjbejlbmaiocabGreatDoor
open Go.RowKit

/-- What the reference says of a constraint. -/
def rconE (vs : List MVar) (c : MCon) : Int :=
  if 1 ≤ c.kind ∧ c.kind ≤ 10 then (if manyB c then 2 else if formB c then (if varsB c vs.length then (if constsB c then firstE (c.lits.map (litE vs)) else 3) else 5) else 1) else 7
/-- Two boxes lie behind the old world. -/
structure CkS (w wr : World) (mb cb : Array Value) : Prop where
  bel : Below w.heap.size w wr
  mod : wr.heap[w.heap.size]? = some (.cells mb 25)
  con : wr.heap[w.heap.size + 1]? = some (.cells cb 54)
theorem CkS.below {w wr wr' : World} {mb cb : Array Value} (h : CkS w wr mb cb) (hb : Below wr.heap.size wr wr') : CkS w wr' mb cb :=
  ⟨h.bel.trans (hb.mono h.bel.size), (hb.block _ (Array.getElem?_eq_some_iff.1 h.mod).1).trans h.mod, (hb.block _ (Array.getElem?_eq_some_iff.1 h.con).1).trans h.con⟩
theorem isvar_two (v : Int) (n : Nat) : (decide (0 ≤ v) && decide (v ≤ (n : Int) - 1)) = isVarB v n := by
  unfold isVarB
  rw [Bool.eq_iff_iff]
  simp only [Bool.and_eq_true, decide_eq_true_eq]
  omega

set_option maxHeartbeats 4000000 in
set_option maxRecDepth 100000 in
theorem rcheckcon_any (m : Mod) (c : MCon) (a : Option Addr) (cap : Nat) (cs vv vc vr vl : Value) (w : World) (hm : m.vars.length ≤ maxLen) (hk : KArg w vv vc vr vl c) :
    Calls Tryz.prog 31 #[.agg #[.slice a m.vars.length cap, cs, .int .i64 m.goal, .int .i64 m.var], conV vv vc vr vl c] w fun e w' => e = .returned (.int .i64 (rconE m.vars c)) ∧ Below w.heap.size w w' := by
  have HK : Hid (∀ w' : World, Below w.heap.size w w' → KArg w' vv vc vr vl c) := fun w' h => KArg.below h hk
  obtain ⟨⟨a1, c1, rfl, hm1, _⟩, ⟨a2, c2, rfl, hm2, _⟩, ⟨a3, c3, rfl, hm3, _⟩, ⟨a4, c4, rfl, hm4, _⟩⟩ := hk
  obtain ⟨R, hR⟩ : ∃ R, rconE m.vars c = R := ⟨_, rfl⟩
  rw [hR]
  have HM : Hid (m.vars.length ≤ maxLen) := hm
  unfold rconE at hR
  unfold conV
  unfold maxLen at hm hm1 hm2 hm3 hm4
  have HS0 : Hid (CkS w ((w.alloc (.cells #[.slice a m.vars.length cap, cs, .int .i64 m.goal, .int .i64 m.var] 25)).alloc (.cells #[.int .i64 c.kind, .slice a1 c.vars.length c1, .slice a2 c.consts.length c2, .int .i64 c.n, .slice a3 c.rows.length c3, .slice a4 c.lits.length c4] 54)) #[.slice a m.vars.length cap, cs, .int .i64 m.goal, .int .i64 m.var] #[.int .i64 c.kind, .slice a1 c.vars.length c1, .slice a2 c.consts.length c2, .int .i64 c.n, .slice a3 c.rows.length c3, .slice a4 c.lits.length c4]) := by
    refine ⟨(below_alloc _ _).alloc (by simp) _, ((below_alloc (w.alloc (.cells #[.slice a m.vars.length cap, cs, .int .i64 m.goal, .int .i64 m.var] 25)) _).block w.heap.size (by simp)).trans (heap_alloc_new w _), ?_⟩
    have h := heap_alloc_new (w.alloc (.cells #[.slice a m.vars.length cap, cs, .int .i64 m.goal, .int .i64 m.var] 25)) (.cells #[.int .i64 c.kind, .slice a1 c.vars.length c1, .slice a2 c.consts.length c2, .int .i64 c.n, .slice a3 c.rows.length c3, .slice a4 c.lits.length c4] 54)
    rw [World.size_alloc] at h
    exact h
  obtain ⟨y, hy⟩ : ∃ y, (w.alloc (.cells #[.slice a m.vars.length cap, cs, .int .i64 m.goal, .int .i64 m.var] 25)).alloc (.cells #[.int .i64 c.kind, .slice a1 c.vars.length c1, .slice a2 c.consts.length c2, .int .i64 c.n, .slice a3 c.rows.length c3, .slice a4 c.lits.length c4] 54) = y := ⟨_, rfl⟩
  rw [hy] at HS0
  have HY : Hid ((w.alloc (.cells #[.slice a m.vars.length cap, cs, .int .i64 m.goal, .int .i64 m.var] 25)).alloc (.cells #[.int .i64 c.kind, .slice a1 c.vars.length c1, .slice a2 c.consts.length c2, .int .i64 c.n, .slice a3 c.rows.length c3, .slice a4 c.lits.length c4] 54) = y) := hy
  clear hy
  have HWR : Hid (IntKind.i64.wrap ((m.vars.length : Int) - 1) = (m.vars.length : Int) - 1) := by show _ = _; rw [IntKind.wrap_i64]; omega
  by_cases hkind : 1 ≤ c.kind ∧ c.kind ≤ 10
  · rw [if_pos hkind] at hR
    have HR : Hid (R = if manyB c then 2 else if formB c then (if varsB c m.vars.length then (if constsB c then firstE (c.lits.map (litE m.vars)) else 3) else 5) else 1) := hR.symm
    have HKI : Hid (1 ≤ c.kind ∧ c.kind ≤ 10) := hkind
    have q1 : (decide (1 ≤ c.kind) && decide (c.kind ≤ 10)) = true := by rw [Bool.and_eq_true]; simp; omega
    clear hR hkind
    go_enter Tryz.func31, Tryz.ntmps31
    go_wp2_with fail
    refine (between_any _ _ _ _).mono ?_
    rintro e wq ⟨rfl, rfl⟩
    rw [q1, HY.out]
    clear HY q1
    have k0 : y.cell? ⟨w.heap.size + 1, 0, none⟩ = some (.int .i64 c.kind) := blk9 HS0.out.con 0 _ rfl
    have k1 : y.cell? ⟨w.heap.size + 1, 1, none⟩ = some (.slice a1 c.vars.length c1) := blk9 HS0.out.con 1 _ rfl
    have k2 : y.cell? ⟨w.heap.size + 1, 2, none⟩ = some (.slice a2 c.consts.length c2) := blk9 HS0.out.con 2 _ rfl
    have k3 : y.cell? ⟨w.heap.size + 1, 3, none⟩ = some (.int .i64 c.n) := blk9 HS0.out.con 3 _ rfl
    have k4 : y.cell? ⟨w.heap.size + 1, 4, none⟩ = some (.slice a3 c.rows.length c3) := blk9 HS0.out.con 4 _ rfl
    have k5 : y.cell? ⟨w.heap.size + 1, 5, none⟩ = some (.slice a4 c.lits.length c4) := blk9 HS0.out.con 5 _ rfl
    by_cases t1 : 4 < c.vars.length
    · have HN : Hid (R = 2) := by show _ = _; rw [HR.out, if_pos (by unfold manyB; simp [t1])]
      go_wp2
      go_ret
      exact ⟨ret_int HN.out.symm, HS0.out.bel⟩
    by_cases t2 : 4 < c.lits.length
    · have HN : Hid (R = 2) := by show _ = _; rw [HR.out, if_pos (by unfold manyB; simp [t2])]
      go_wp2
      go_ret
      exact ⟨ret_int HN.out.symm, HS0.out.bel⟩
    by_cases t3 : 8 < c.consts.length
    · have HN : Hid (R = 2) := by show _ = _; rw [HR.out, if_pos (by unfold manyB; simp [t3])]
      go_wp2
      go_ret
      exact ⟨ret_int HN.out.symm, HS0.out.bel⟩
    by_cases t4 : 20 < c.rows.length
    · have HN : Hid (R = 2) := by show _ = _; rw [HR.out, if_pos (by unfold manyB; simp [t4])]
      go_wp2
      go_ret
      exact ⟨ret_int HN.out.symm, HS0.out.bel⟩
    have HR1 : Hid (R = if formB c then (if varsB c m.vars.length then (if constsB c then firstE (c.lits.map (litE m.vars)) else 3) else 5) else 1) := by show _ = _; rw [HR.out, if_neg (by unfold manyB; simp [t1, t2, t3, t4])]
    clear HR
    go_wp2_with fail
    have HKY := HK.out _ HS0.out.bel
    refine (rform_any c _ _ _ _ _ HKY HKI.out (by omega) (by omega) (by omega) (by omega)).mono ?_
    rintro e w1 ⟨rfl, hb1⟩
    have HS1 : Hid (CkS w w1 #[.slice a m.vars.length cap, cs, .int .i64 m.goal, .int .i64 m.var] #[.int .i64 c.kind, .slice a1 c.vars.length c1, .slice a2 c.consts.length c2, .int .i64 c.n, .slice a3 c.rows.length c3, .slice a4 c.lits.length c4]) := HS0.out.below hb1
    clear hb1 HS0 k0 k1 k2 k3 k4 k5 HKY HKI
    cases hf : formB c
    · have HN : Hid (R = 1) := by show _ = _; rw [HR1.out, hf]; rfl
      clear hf
      go_wp2
      go_ret
      exact ⟨ret_int HN.out.symm, HS1.out.bel⟩
    have HR2 : Hid (R = if varsB c m.vars.length then (if constsB c then firstE (c.lits.map (litE m.vars)) else 3) else 5) := by show _ = _; rw [HR1.out, hf]; rfl
    clear HR1 hf
    go_wp2_with fail
    go_loopw [5] (fun i wr => ∃ k : Nat, k ≤ c.vars.length ∧ i = .int .i64 k ∧ Hid ((c.vars.take k).all (fun v => isVarB v m.vars.length) = true) ∧ Hid (CkS w wr #[.slice a m.vars.length cap, cs, .int .i64 m.goal, .int .i64 m.var] #[.int .i64 c.kind, .slice a1 c.vars.length c1, .slice a2 c.consts.length c2, .int .i64 c.n, .slice a3 c.rows.length c3, .slice a4 c.lits.length c4])) (fun i _ => c.vars.length - (intOf i).toNat)
    case atStart => exact ⟨0, by omega, rfl, rfl, HS1⟩
    case round =>
      clear HS1
      obtain ⟨k, hkl, rfl, hall, HS⟩ := hrel
      have k1 : wr.cell? ⟨w.heap.size + 1, 1, none⟩ = some (.slice a1 c.vars.length c1) := blk9 HS.out.con 1 _ rfl
      have m0 : wr.cell? ⟨w.heap.size, 0, none⟩ = some (.slice a m.vars.length cap) := blk9 HS.out.mod 0 _ rfl
      have l0 : w.heap.size + 1 < wr.heap.size := (Array.getElem?_eq_some_iff.1 HS.out.con).1
      by_cases hlt : k < c.vars.length
      · obtain ⟨z, hz⟩ : ∃ z, c.vars[k]? = some z := ⟨c.vars[k], by simp [hlt]⟩
        obtain ⟨a9, c9, e9, _, hr⟩ := (HK.out _ HS.out.bel).1
        injection e9 with e91 _ e92
        rw [← e91] at hr
        clear e91 e92
        obtain ⟨b, off, ha, hb, hc⟩ := hr k z hz
        rw [ha] at k1
        clear ha
        have HZ : Hid (c.vars[k]? = some z) := hz
        clear hz hr
        cases hv : isVarB z m.vars.length
        · have hq : (decide (0 ≤ z) && decide (z ≤ (m.vars.length : Int) - 1)) = false := by rw [isvar_two]; exact hv
          have HN : Hid (R = 5) := by show _ = _; rw [HR2.out, if_neg (by unfold varsB; rw [all_hit _ c.vars k z HZ.out hv]; simp)]
          clear hv
          go_wp2_with fail
          go_region_law
            (first
              | (rw [if_pos (by rfl)]; go_simp; go_at_call 30; refine (between_any _ _ _ _).mono ?_; rintro e w3 ⟨rfl, hw3⟩; have hB3 : Below wr.heap.size wr w3 := (by subst hw3; exact (Below.refl _ _).drew); clear hw3; (try rw [HWR.out]); rw [hq]))
          all_goals
            go_wp2
            go_ret
            exact ⟨ret_int HN.out.symm, (HS.out.below hB3).bel⟩
        · have hq : (decide (0 ≤ z) && decide (z ≤ (m.vars.length : Int) - 1)) = true := by rw [isvar_two]; exact hv
          have HN : Hid ((c.vars.take (k + 1)).all (fun v => isVarB v m.vars.length) = true) := all_next _ c.vars k z HZ.out hall.out hv
          clear hv
          go_wp2_with fail
          go_region_law
            (first
              | (rw [if_pos (by rfl)]; go_simp; go_at_call 30; refine (between_any _ _ _ _).mono ?_; rintro e w3 ⟨rfl, hw3⟩; have hB3 : Below wr.heap.size wr w3 := (by subst hw3; exact (Below.refl _ _).drew); clear hw3; (try rw [HWR.out]); rw [hq]))
          all_goals
            have HS3 : Hid (CkS w w3 #[.slice a m.vars.length cap, cs, .int .i64 m.goal, .int .i64 m.var] #[.int .i64 c.kind, .slice a1 c.vars.length c1, .slice a2 c.consts.length c2, .int .i64 c.n, .slice a3 c.rows.length c3, .slice a4 c.lits.length c4]) := HS.out.below hB3
            clear hB3
            go_wp2
            go_roundw
            case rel => exact ⟨k + 1, by omega, by go_num, HN, HS3⟩
            case measure => simp [intOf]; omega
      have HA1 : Hid (c.vars.all (fun v => isVarB v m.vars.length) = true) := all_end _ c.vars k hlt hall.out
      clear hall
      go_wp2_with fail
      clear k1 m0 l0 hlt hkl
      obtain ⟨wa, hwa⟩ : ∃ wa, wr = wa := ⟨_, rfl⟩
      rw [hwa] at HS ⊢
      clear hwa
      go_loopw [6] (fun i wr => ∃ k : Nat, k ≤ c.lits.length ∧ i = .int .i64 k ∧ Hid ((c.lits.take k).all (fun l => isVarB l.var m.vars.length) = true) ∧ Hid (CkS w wr #[.slice a m.vars.length cap, cs, .int .i64 m.goal, .int .i64 m.var] #[.int .i64 c.kind, .slice a1 c.vars.length c1, .slice a2 c.consts.length c2, .int .i64 c.n, .slice a3 c.rows.length c3, .slice a4 c.lits.length c4])) (fun i _ => c.lits.length - (intOf i).toNat)
      case atStart => exact ⟨0, by omega, rfl, rfl, HS⟩
      case round =>
        clear HS
        obtain ⟨k, hkl, rfl, hall, HS⟩ := hrel
        have k5 : wr.cell? ⟨w.heap.size + 1, 5, none⟩ = some (.slice a4 c.lits.length c4) := blk9 HS.out.con 5 _ rfl
        have m0 : wr.cell? ⟨w.heap.size, 0, none⟩ = some (.slice a m.vars.length cap) := blk9 HS.out.mod 0 _ rfl
        have l0 : w.heap.size + 1 < wr.heap.size := (Array.getElem?_eq_some_iff.1 HS.out.con).1
        by_cases hlt : k < c.lits.length
        · obtain ⟨z, hz⟩ : ∃ z, c.lits[k]? = some z := ⟨c.lits[k], by simp [hlt]⟩
          obtain ⟨a9, c9, e9, _, hr⟩ := (HK.out _ HS.out.bel).2.2.2
          injection e9 with e91 _ e92
          rw [← e91] at hr
          clear e91 e92
          obtain ⟨b, off, ha, hb, hc0, hc1, hc2⟩ := hr k z hz
          rw [ha] at k5
          clear ha
          have HZ : Hid (c.lits[k]? = some z) := hz
          clear hz hr
          cases hv : isVarB z.var m.vars.length
          · have hq : (decide (0 ≤ z.var) && decide (z.var ≤ (m.vars.length : Int) - 1)) = false := by rw [isvar_two]; exact hv
            have HN : Hid (R = 5) := by show _ = _; rw [HR2.out, if_neg (by unfold varsB; rw [all_hit _ c.lits k z HZ.out hv]; simp)]
            clear hv
            go_wp2_with fail
            go_region_law
              (first
                | (rw [if_pos (by rfl)]; go_simp; go_at_call 30; refine (between_any _ _ _ _).mono ?_; rintro e w3 ⟨rfl, hw3⟩; have hB3 : Below wr.heap.size wr w3 := (by subst hw3; exact (Below.refl _ _).drew); clear hw3; (try rw [HWR.out]); rw [hq]))
            all_goals
              go_wp2
              go_ret
              exact ⟨ret_int HN.out.symm, (HS.out.below hB3).bel⟩
          · have hq : (decide (0 ≤ z.var) && decide (z.var ≤ (m.vars.length : Int) - 1)) = true := by rw [isvar_two]; exact hv
            have HN : Hid ((c.lits.take (k + 1)).all (fun l => isVarB l.var m.vars.length) = true) := all_next _ c.lits k z HZ.out hall.out hv
            clear hv
            go_wp2_with fail
            go_region_law
              (first
                | (rw [if_pos (by rfl)]; go_simp; go_at_call 30; refine (between_any _ _ _ _).mono ?_; rintro e w3 ⟨rfl, hw3⟩; have hB3 : Below wr.heap.size wr w3 := (by subst hw3; exact (Below.refl _ _).drew); clear hw3; (try rw [HWR.out]); rw [hq]))
            all_goals
              have HS3 : Hid (CkS w w3 #[.slice a m.vars.length cap, cs, .int .i64 m.goal, .int .i64 m.var] #[.int .i64 c.kind, .slice a1 c.vars.length c1, .slice a2 c.consts.length c2, .int .i64 c.n, .slice a3 c.rows.length c3, .slice a4 c.lits.length c4]) := HS.out.below hB3
              clear hB3
              go_wp2
              go_roundw
              case rel => exact ⟨k + 1, by omega, by go_num, HN, HS3⟩
              case measure => simp [intOf]; omega
        have HR3 : Hid (R = if constsB c then firstE (c.lits.map (litE m.vars)) else 3) := by show _ = _; rw [HR2.out, if_pos (by unfold varsB; rw [HA1.out, all_end _ c.lits k hlt hall.out]; rfl)]
        clear hall HA1 HR2
        go_wp2_with fail
        clear k5 m0 l0 hlt hkl
        obtain ⟨wb, hwb⟩ : ∃ wb, wr = wb := ⟨_, rfl⟩
        rw [hwb] at HS ⊢
        clear hwb
        go_loopw [7] (fun i wr => ∃ k : Nat, k ≤ c.consts.length ∧ i = .int .i64 k ∧ Hid ((c.consts.take k).all isConstB = true) ∧ Hid (CkS w wr #[.slice a m.vars.length cap, cs, .int .i64 m.goal, .int .i64 m.var] #[.int .i64 c.kind, .slice a1 c.vars.length c1, .slice a2 c.consts.length c2, .int .i64 c.n, .slice a3 c.rows.length c3, .slice a4 c.lits.length c4])) (fun i _ => c.consts.length - (intOf i).toNat)
        case atStart => exact ⟨0, by omega, rfl, rfl, HS⟩
        case round =>
          clear HS
          obtain ⟨k, hkl, rfl, hall, HS⟩ := hrel
          have k2 : wr.cell? ⟨w.heap.size + 1, 2, none⟩ = some (.slice a2 c.consts.length c2) := blk9 HS.out.con 2 _ rfl
          by_cases hlt : k < c.consts.length
          · obtain ⟨z, hz⟩ : ∃ z, c.consts[k]? = some z := ⟨c.consts[k], by simp [hlt]⟩
            obtain ⟨a9, c9, e9, _, hr⟩ := (HK.out _ HS.out.bel).2.1
            injection e9 with e91 _ e92
            rw [← e91] at hr
            clear e91 e92
            obtain ⟨b, off, ha, hb, hc⟩ := hr k z hz
            rw [ha] at k2
            clear ha
            have HZ : Hid (c.consts[k]? = some z) := hz
            clear hz hr
            go_wp2_with fail
            refine (inconst_any _ _).mono ?_
            rintro e wq ⟨rfl, rfl⟩
            cases hv : isConstB z
            · have HN : Hid (R = 3) := by show _ = _; rw [HR3.out, if_neg (by unfold constsB; rw [all_hit _ c.consts k z HZ.out hv]; simp)]
              go_wp2
              go_ret
              exact ⟨ret_int HN.out.symm, HS.out.bel⟩
            · have HN : Hid ((c.consts.take (k + 1)).all isConstB = true) := all_next _ c.consts k z HZ.out hall.out hv
              go_wp2
              go_roundw
              case rel => exact ⟨k + 1, by omega, by go_num, HN, HS⟩
              case measure => simp [intOf]; omega
          have HA2 : Hid (c.consts.all isConstB = true) := all_end _ c.consts k hlt hall.out
          clear hall
          have k3 : wr.cell? ⟨w.heap.size + 1, 3, none⟩ = some (.int .i64 c.n) := blk9 HS.out.con 3 _ rfl
          go_wp2_with fail
          refine (inconst_any _ _).mono ?_
          rintro e wc ⟨rfl, hwc⟩
          rw [← hwc] at HS
          clear hwc k2 k3 hlt hkl
          cases hv : isConstB c.n
          · have HN : Hid (R = 3) := by show _ = _; rw [HR3.out, if_neg (by unfold constsB; rw [hv]; simp)]
            go_wp2
            go_ret
            exact ⟨ret_int HN.out.symm, HS.out.bel⟩
          have HA3 : Hid (isConstB c.n = true) := hv
          clear hv
          go_wp2_with fail
          go_loopw [8] (fun i wr => ∃ k : Nat, k ≤ c.rows.length ∧ i = .int .i64 k ∧ Hid ((c.rows.take k).all (fun r => r.all isConstB) = true) ∧ Hid (CkS w wr #[.slice a m.vars.length cap, cs, .int .i64 m.goal, .int .i64 m.var] #[.int .i64 c.kind, .slice a1 c.vars.length c1, .slice a2 c.consts.length c2, .int .i64 c.n, .slice a3 c.rows.length c3, .slice a4 c.lits.length c4])) (fun i _ => c.rows.length - (intOf i).toNat)
          case atStart => exact ⟨0, by omega, rfl, rfl, HS⟩
          case round =>
            clear HS
            obtain ⟨k, hkl, rfl, hall, HS⟩ := hrel
            have k4 : wr.cell? ⟨w.heap.size + 1, 4, none⟩ = some (.slice a3 c.rows.length c3) := blk9 HS.out.con 4 _ rfl
            by_cases hlt : k < c.rows.length
            · obtain ⟨z, hz⟩ : ∃ z, c.rows[k]? = some z := ⟨c.rows[k], by simp [hlt]⟩
              obtain ⟨a9, c9, e9, _, hr⟩ := (HK.out _ HS.out.bel).2.2.1
              injection e9 with e91 _ e92
              rw [← e91] at hr
              clear e91 e92
              obtain ⟨b, off, x, ha, hb, hc, hx⟩ := hr k z hz
              rw [ha] at k4
              clear ha
              obtain ⟨a9, c9, rfl, hm9, hr9⟩ := hx
              have HZ : Hid (c.rows[k]? = some z) := hz
              have HV9 : Hid (∀ (i : Nat) (y : Int), z[i]? = some y → ∃ b off, a9 = some ⟨b, off, none⟩ ∧ b < wr.heap.size ∧ wr.cell? ⟨b, off + i, none⟩ = some (.int .i64 y)) := hr9
              unfold maxLen at hm9
              obtain ⟨_, hm9⟩ := hm9
              clear hz hr hr9
              go_wp2_with fail
              go_loop [9] (fun i => ∃ j : Nat, j ≤ z.length ∧ i = .int .i64 j ∧ Hid ((z.take j).all isConstB = true)) (fun i => z.length - (intOf i).toNat)
              case atStart => exact ⟨0, by omega, rfl, rfl⟩
              case round =>
                obtain ⟨j, hjl, rfl, hallj⟩ := hrel
                by_cases hltj : j < z.length
                · obtain ⟨u, hu⟩ : ∃ u, z[j]? = some u := ⟨z[j], by simp [hltj]⟩
                  obtain ⟨b2, off2, ha2, hb2, hc2⟩ := HV9.out j u hu
                  subst ha2
                  have HU : Hid (z[j]? = some u) := hu
                  clear hu
                  go_wp2_with fail
                  refine (inconst_any _ _).mono ?_
                  rintro e wq ⟨rfl, rfl⟩
                  cases hv : isConstB u
                  · have HN : Hid (R = 3) := by show _ = _; rw [HR3.out, if_neg (by unfold constsB; rw [all_hit (fun r => r.all isConstB) c.rows k z HZ.out (all_hit _ z j u HU.out hv)]; simp)]
                    go_wp2
                    go_ret
                    exact ⟨ret_int HN.out.symm, HS.out.bel⟩
                  · have HN : Hid ((z.take (j + 1)).all isConstB = true) := all_next _ z j u HU.out hallj.out hv
                    go_wp2
                    go_round
                    case rel => exact ⟨j + 1, by omega, by go_num, HN⟩
                    case measure => simp [intOf]; omega
                have HN : Hid ((c.rows.take (k + 1)).all (fun r => r.all isConstB) = true) := all_next _ c.rows k z HZ.out hall.out (all_end _ z j hltj hallj.out)
                clear hallj
                go_wp2
                go_roundw
                case rel => exact ⟨k + 1, by omega, by go_num, HN, HS⟩
                case measure => simp [intOf]; omega
            have HR4 : Hid (R = firstE (c.lits.map (litE m.vars))) := by show _ = _; rw [HR3.out, if_pos (by unfold constsB; rw [HA2.out, HA3.out, all_end _ c.rows k hlt hall.out]; rfl)]
            clear hall HA2 HA3 HR3
            go_wp2_with fail
            clear k4 hlt hkl
            obtain ⟨wd, hwd⟩ : ∃ wd, wr = wd := ⟨_, rfl⟩
            rw [hwd] at HS ⊢
            clear hwd
            go_loopw [10] (fun i wr => ∃ k : Nat, k ≤ c.lits.length ∧ i = .int .i64 k ∧ Hid (firstE ((c.lits.map (litE m.vars)).take k) = 0) ∧ Hid (CkS w wr #[.slice a m.vars.length cap, cs, .int .i64 m.goal, .int .i64 m.var] #[.int .i64 c.kind, .slice a1 c.vars.length c1, .slice a2 c.consts.length c2, .int .i64 c.n, .slice a3 c.rows.length c3, .slice a4 c.lits.length c4])) (fun i _ => c.lits.length - (intOf i).toNat)
            case atStart => exact ⟨0, by omega, rfl, rfl, HS⟩
            case round =>
              clear HS
              obtain ⟨k, hkl, rfl, hall, HS⟩ := hrel
              have k5 : wr.cell? ⟨w.heap.size + 1, 5, none⟩ = some (.slice a4 c.lits.length c4) := blk9 HS.out.con 5 _ rfl
              have m0 : wr.cell? ⟨w.heap.size, 0, none⟩ = some (.slice a m.vars.length cap) := blk9 HS.out.mod 0 _ rfl
              have m1 : wr.cell? ⟨w.heap.size, 1, none⟩ = some (cs) := blk9 HS.out.mod 1 _ rfl
              have m2 : wr.cell? ⟨w.heap.size, 2, none⟩ = some (.int .i64 m.goal) := blk9 HS.out.mod 2 _ rfl
              have m3 : wr.cell? ⟨w.heap.size, 3, none⟩ = some (.int .i64 m.var) := blk9 HS.out.mod 3 _ rfl
              have l0 : w.heap.size + 1 < wr.heap.size := (Array.getElem?_eq_some_iff.1 HS.out.con).1
              by_cases hlt : k < c.lits.length
              · obtain ⟨z, hz⟩ : ∃ z, c.lits[k]? = some z := ⟨c.lits[k], by simp [hlt]⟩
                obtain ⟨a9, c9, e9, _, hr⟩ := (HK.out _ HS.out.bel).2.2.2
                injection e9 with e91 _ e92
                rw [← e91] at hr
                clear e91 e92
                obtain ⟨b, off, ha, hb, hc0, hc1, hc2⟩ := hr k z hz
                rw [ha] at k5
                clear ha
                obtain ⟨er, her⟩ : ∃ er, litE m.vars z = er := ⟨_, rfl⟩
                have HZ : Hid ((c.lits.map (litE m.vars))[k]? = some er) := by show _ = _; rw [List.getElem?_map, hz, ← her]; rfl
                have hnv := rchecklit_any m z a cap cs wr.drew HM.out
                rw [her] at hnv
                clear hz hr her
                go_wp2_with fail
                go_region_law
                  (first
                    | (rw [if_pos (by rfl)]; go_simp; go_at_call 63; refine hnv.mono ?_; rintro e w3 ⟨rfl, hb3⟩; have hB3 : Below wr.heap.size wr w3 := (Below.refl _ _).drew.trans hb3; dsimp only))
                all_goals
                  have HS3 : Hid (CkS w w3 #[.slice a m.vars.length cap, cs, .int .i64 m.goal, .int .i64 m.var] #[.int .i64 c.kind, .slice a1 c.vars.length c1, .slice a2 c.consts.length c2, .int .i64 c.n, .slice a3 c.rows.length c3, .slice a4 c.lits.length c4]) := HS.out.below hB3
                  clear hB3 hb3 hnv
                  by_cases he : er = 0
                  · subst he
                    have HN : Hid (firstE ((c.lits.map (litE m.vars)).take (k + 1)) = 0) := firstE_step _ k hall.out HZ.out
                    go_wp2
                    go_roundw
                    case rel => exact ⟨k + 1, by omega, by go_num, HN, HS3⟩
                    case measure => simp [intOf]; omega
                  · have HN : Hid (R = er) := by show _ = _; rw [HR4.out]; exact firstE_hit _ k er hall.out HZ.out he
                    have he2 : (er != 0) = true := by simpa using he
                    clear he
                    go_wp2
                    go_ret
                    exact ⟨ret_int HN.out.symm, HS3.out.bel⟩
              have HN : Hid (R = 0) := by
                have := hall.out
                rw [List.take_of_length_le (by simp; omega)] at this
                show _ = _
                rw [HR4.out]; exact this
              go_wp2
              go_ret
              exact ⟨ret_int HN.out.symm, HS.out.bel⟩
  · rw [if_neg hkind] at hR
    have HN : Hid (R = 7) := hR.symm
    have q1 : (decide (1 ≤ c.kind) && decide (c.kind ≤ 10)) = false := by rw [Bool.and_eq_false_iff]; simp; omega
    go_enter Tryz.func31, Tryz.ntmps31
    go_wp2_with fail
    refine (between_any _ _ _ _).mono ?_
    rintro e wq ⟨rfl, rfl⟩
    rw [q1, HY.out]
    go_wp2
    go_ret
    exact ⟨ret_int HN.out.symm, HS0.out.bel⟩
end Go.Proofs.YtdjbejlbmaiocabGreatDoor
/-
  WALK: the reference's check of a model: CheckModel; where it says what Check says.
-/
namespace Go.Proofs.YtdjbejlbmaiocabGreatDoor
open Go.RowKit

def rconL (m : Mod) : List Int := m.cons.map (rconE m.vars)
theorem rconL_get (m : Mod) (k : Nat) (t : MCon) (h : m.cons[k]? = some t) : (rconL m)[k]? = some (rconE m.vars t) := by simp [rconL, h]
/-- What the reference says of a model. -/
def rcheckM (m : Mod) : Int :=
  if m.vars.length = 0 then 1 else if 6 < m.vars.length ∨ 8 < m.cons.length then 2
  else if firstE (varL m) = 0 then (if firstE (rconL m) = 0 then goalE m else firstE (rconL m)) else firstE (varL m)
/-- Literals as texts have them. -/
def LitsIn (m : Mod) : Prop := ∀ c ∈ m.cons, ∀ l ∈ c.lits, 1 ≤ l.op ∧ l.op ≤ 4
theorem firstE_eq {l k : List Int} (h : l = k) : firstE l = firstE k := by rw [h]
theorem litsE_first (vs : List MVar) : ∀ ls : List MLit, (∀ l ∈ ls, 1 ≤ l.op ∧ l.op ≤ 4) → (ls.all fun l => isVarB l.var vs.length) = true → firstE (ls.map (litE vs)) = litsE ls
  | [], _, _ => rfl
  | x :: r, h, hv => by
    have hx := h x List.mem_cons_self
    rw [List.all_cons, Bool.and_eq_true] at hv
    have ih := litsE_first vs r (fun l hl => h l (List.mem_cons_of_mem _ hl)) hv.2
    have hr : (r.all fun l => decide (1 ≤ l.op) && decide (l.op ≤ 4)) = true := List.all_eq_true.2 (fun l hl => by have := h l (List.mem_cons_of_mem _ hl); simp; omega)
    have hxx : (decide (1 ≤ x.op) && decide (x.op ≤ 4)) = true := by simp; omega
    have hvx : ¬ (x.var < 0 ∨ (vs.length : Int) ≤ x.var) := by have := hv.1; unfold isVarB at this; simp at this; omega
    rw [List.map_cons]
    unfold litsE at ih ⊢
    rw [List.all_cons, List.all_cons, hxx, hr, Bool.true_and, if_pos rfl]
    rw [hr, if_pos rfl] at ih
    unfold firstE
    have hle : litE vs x = if x.n < -1000 ∨ 1000 < x.n then 3 else 0 := by unfold litE; rw [if_neg hvx, if_neg (by omega)]
    rw [hle]
    by_cases hn : x.n < -1000 ∨ 1000 < x.n
    · have hb : isConstB x.n = false := by unfold isConstB inB; rw [Bool.and_eq_false_iff]; simp; omega
      rw [if_pos hn, hb, Bool.false_and]
      rfl
    · have hb : isConstB x.n = true := by unfold isConstB inB; rw [Bool.and_eq_true]; simp; omega
      rw [if_neg hn, if_pos rfl, hb, Bool.true_and]
      exact ih
theorem rconE_same (vs : List MVar) (c : MCon) (h : ∀ l ∈ c.lits, 1 ≤ l.op ∧ l.op ≤ 4) : rconE vs c = conE vs.length c := by
  unfold rconE conE
  split
  · split
    · rfl
    · split
      · split
        · rename_i hv
          split
          · refine litsE_first vs c.lits h ?_
            unfold varsB at hv
            rw [Bool.and_eq_true] at hv
            exact hv.2
          · rfl
        · rfl
      · rfl
  · rfl
theorem rcheckM_same (m : Mod) (h : LitsIn m) : rcheckM m = checkM m := by
  have e : rconL m = conL m := List.map_congr_left (fun c hc => rconE_same m.vars c (h c hc))
  unfold rcheckM checkM
  rw [e]
  rfl
/-- A box lies behind the old world. -/
structure CmS (w wr : World) (mb : Array Value) : Prop where
  bel : Below w.heap.size w wr
  mod : wr.heap[w.heap.size]? = some (.cells mb 25)
theorem CmS.below {w wr wr' : World} {mb : Array Value} (h : CmS w wr mb) (hb : Below wr.heap.size wr wr') : CmS w wr' mb :=
  ⟨h.bel.trans (hb.mono h.bel.size), (hb.block _ (Array.getElem?_eq_some_iff.1 h.mod).1).trans h.mod⟩
theorem in50 (n : Int) : (decide (-50 ≤ n) && decide (n ≤ 50)) = inB n 50 := rfl

set_option maxHeartbeats 4000000 in
set_option maxRecDepth 100000 in
theorem rcheckmodel_any (m : Mod) (vs cs : Value) (w : World) (hm : MArg w vs cs m) :
    Calls Tryz.prog 11 #[modV vs cs m] w fun e w' => e = .returned (.int .i64 (rcheckM m)) ∧ Below w.heap.size w w' := by
  have HMA : Hid (∀ w' : World, Below w.heap.size w w' → MArg w' vs cs m) := fun w' h => MArg.below h hm
  obtain ⟨⟨a1, c1, rfl, hl1, hr1⟩, ⟨a2, c2, rfl, hl2, hr2⟩⟩ := hm
  obtain ⟨R, hR⟩ : ∃ R, rcheckM m = R := ⟨_, rfl⟩
  rw [hR]
  unfold maxLen at hl1 hl2
  obtain ⟨hl11, hl1⟩ := hl1
  obtain ⟨hl21, hl2⟩ := hl2
  have HML : Hid (m.vars.length ≤ maxLen) := by unfold maxLen; show _ ≤ _; omega
  clear hr1 hr2
  unfold modV
  have HS0 : Hid (CmS w (w.alloc (.cells #[.slice a1 m.vars.length c1, .slice a2 m.cons.length c2, .int .i64 m.goal, .int .i64 m.var] 25)) #[.slice a1 m.vars.length c1, .slice a2 m.cons.length c2, .int .i64 m.goal, .int .i64 m.var]) := ⟨below_alloc _ _, heap_alloc_new w _⟩
  obtain ⟨mb, hmb⟩ : ∃ mb : Array Value, #[.slice a1 m.vars.length c1, .slice a2 m.cons.length c2, .int .i64 m.goal, .int .i64 m.var] = mb := ⟨_, rfl⟩
  have HMB : Hid (mb[0]? = some (.slice a1 m.vars.length c1) ∧ mb[1]? = some (.slice a2 m.cons.length c2) ∧ mb[2]? = some (.int .i64 m.goal) ∧ mb[3]? = some (.int .i64 m.var)) := by rw [← hmb]; exact ⟨rfl, rfl, rfl, rfl⟩
  obtain ⟨y, hy⟩ : ∃ y, w.alloc (.cells #[.slice a1 m.vars.length c1, .slice a2 m.cons.length c2, .int .i64 m.goal, .int .i64 m.var] 25) = y := ⟨_, rfl⟩
  rw [hy] at HS0
  rw [hmb] at HS0
  have HY : Hid (w.alloc (.cells #[.slice a1 m.vars.length c1, .slice a2 m.cons.length c2, .int .i64 m.goal, .int .i64 m.var] 25) = y) := hy
  clear hy hmb
  have m0 : y.cell? ⟨w.heap.size, 0, none⟩ = some (.slice a1 m.vars.length c1) := blk9 HS0.out.mod 0 _ HMB.out.1
  have m1 : y.cell? ⟨w.heap.size, 1, none⟩ = some (.slice a2 m.cons.length c2) := blk9 HS0.out.mod 1 _ HMB.out.2.1
  by_cases h0 : m.vars.length = 0
  · have HE : Hid (R = 1) := by rw [← hR]; unfold rcheckM; rw [if_pos h0]; rfl
    have g0 : ((m.vars.length : Int) == 0) = true := by simp [h0]
    clear hR h0
    go_enter Tryz.func11, Tryz.ntmps11
    go_wp2
    go_ret
    exact ⟨ret_int HE.out.symm, below_alloc _ _⟩
  · have g0 : ((m.vars.length : Int) == 0) = false := by simpa using h0
    by_cases h6 : 6 < m.vars.length
    · have HE : Hid (R = 2) := by rw [← hR]; unfold rcheckM; rw [if_neg h0, if_pos (Or.inl h6)]; rfl
      clear hR h0
      go_enter Tryz.func11, Tryz.ntmps11
      go_wp2
      go_ret
      exact ⟨ret_int HE.out.symm, below_alloc _ _⟩
    · by_cases h8 : 8 < m.cons.length
      · have HE : Hid (R = 2) := by rw [← hR]; unfold rcheckM; rw [if_neg h0, if_pos (Or.inr h8)]; rfl
        clear hR h0
        go_enter Tryz.func11, Tryz.ntmps11
        go_wp2
        go_ret
        exact ⟨ret_int HE.out.symm, below_alloc _ _⟩
      · have HE : Hid (R = if firstE (varL m) = 0 then (if firstE (rconL m) = 0 then goalE m else firstE (rconL m)) else firstE (varL m)) := by
          rw [← hR]; unfold rcheckM; rw [if_neg h0, if_neg (by omega)]; rfl
        clear hR h0
        go_enter Tryz.func11, Tryz.ntmps11
        go_wp2
        rw [HY.out]
        clear HY m0 m1
        go_loopw [4] (fun i wr => ∃ k : Nat, k ≤ m.vars.length ∧ i = .int .i64 k ∧ Hid (firstE ((varL m).take k) = 0) ∧ Hid (CmS w wr mb)) (fun i _ => m.vars.length - (intOf i).toNat)
        case atStart => exact ⟨0, by omega, rfl, rfl, HS0⟩
        case round =>
          clear HS0
          obtain ⟨k, hk, rfl, hno, HS⟩ := hrel
          have m0 : wr.cell? ⟨w.heap.size, 0, none⟩ = some (.slice a1 m.vars.length c1) := blk9 HS.out.mod 0 _ HMB.out.1
          have hws : w.heap.size < wr.heap.size := (Array.getElem?_eq_some_iff.1 HS.out.mod).1
          by_cases hlt : k < m.vars.length
          · obtain ⟨t, ht⟩ : ∃ t, m.vars[k]? = some t := ⟨m.vars[k], by simp [hlt]⟩
            have HG : Hid ((varL m)[k]? = some (varE (m.vars.take k) t)) := varL_get m k t ht
            obtain ⟨a9, c9, e9, _, hr⟩ := (HMA.out _ HS.out.bel).1
            injection e9 with e91 _ e92
            rw [← e91] at hr
            clear e91 e92
            obtain ⟨hts, b, off, ha, hb, n0, n1, n2⟩ := hr k t ht
            rw [ha] at m0
            have HA1 : Hid (a1 = some ⟨b, off, none⟩) := ha
            have HTS : Hid (t.name.size ≤ maxLen) := hts
            clear hr ht ha hts
            obtain ⟨V, hV⟩ : ∃ V, varE (m.vars.take k) t = V := ⟨_, rfl⟩
            rw [hV] at HG
            have HV : Hid (V = (if isNameB t.name then (if twiceB (m.vars.take k) t.name then 6 else if inB t.lo 50 && (inB t.hi 50 && !decide (t.hi < t.lo)) then (if 6 < t.hi - t.lo + 1 then 2 else 0) else 3) else 1)) := by show _ = _; rw [← hV]; rfl
            clear hV
            have HHIT : Hid (V ≠ 0 → R = V) := fun hv => by rw [HE.out, if_neg (by rw [firstE_hit _ k V hno.out HG.out hv]; exact hv)]; exact firstE_hit _ k V hno.out HG.out hv
            have HSV : Hid (CmS w (wr.alloc (.cells #[.string t.name, .int .i64 t.lo, .int .i64 t.hi] 47)) mb) := HS.out.below (below_alloc _ _)
            have HVB : Hid ((wr.alloc (.cells #[.string t.name, .int .i64 t.lo, .int .i64 t.hi] 47)).heap[wr.heap.size]? = some (.cells #[.string t.name, .int .i64 t.lo, .int .i64 t.hi] 47)) := heap_alloc_new wr _
            obtain ⟨nm, hnm⟩ : ∃ nm, t.name = nm := ⟨_, rfl⟩
            obtain ⟨lo, hlo⟩ : ∃ lo, t.lo = lo := ⟨_, rfl⟩
            obtain ⟨hi, hhi⟩ : ∃ hi, t.hi = hi := ⟨_, rfl⟩
            rw [hnm] at HTS
            rw [hnm, hlo, hhi] at HV
            rw [hnm, hlo, hhi] at HSV HVB
            rw [hnm] at n0
            rw [hlo] at n1
            rw [hhi] at n2
            clear hnm hlo hhi
            go_wp2_with fail
            refine (isname_any nm HTS.out _).mono ?_
            rintro e w1 ⟨rfl, hb1⟩
            have HS1 : Hid (CmS w w1 mb) := HSV.out.below hb1
            have HVB1 : Hid (w1.heap[wr.heap.size]? = some (.cells #[.string nm, .int .i64 lo, .int .i64 hi] 47)) := (hb1.block _ (Array.getElem?_eq_some_iff.1 HVB.out).1).trans HVB.out
            obtain ⟨B, hB⟩ : ∃ B, wr.heap.size = B := ⟨_, rfl⟩
            rw [hB] at HVB1
            have HBB : Hid (wr.heap.size = B) := hB
            clear hb1 HSV HVB m0 n0 n1 n2 hb HS hws hB
            cases hn : isNameB nm
            · have HN : Hid (R = 1) := by
                have hv : V = 1 := by rw [HV.out, hn]; rfl
                rw [hv] at HHIT; exact HHIT.out (by decide)
              clear hn
              go_wp2
              go_ret
              exact ⟨ret_int HN.out.symm, HS1.out.bel⟩
            have HV1 : Hid (V = (if twiceB (m.vars.take k) nm then 6 else if inB lo 50 && (inB hi 50 && !decide (hi < lo)) then (if 6 < hi - lo + 1 then 2 else 0) else 3)) := by show _ = _; rw [HV.out, hn]; rfl
            clear hn HV
            go_wp2_with fail
            rw [HBB.out]
            clear HBB
            go_loopw [6] (fun i wx => ∃ j : Nat, j ≤ k ∧ i = .int .i64 j ∧ Hid (twiceB (m.vars.take j) nm = false) ∧ Hid (CmS w wx mb) ∧ Hid (wx.heap[B]? = some (.cells #[.string nm, .int .i64 lo, .int .i64 hi] 47))) (fun i _ => k - (intOf i).toNat)
            case atStart => exact ⟨0, by omega, rfl, rfl, HS1, HVB1⟩
            case round =>
              clear HS1 HVB1
              obtain ⟨j, hj, rfl, htw, HS1, HVB1⟩ := hrel
              have m0 : wr.cell? ⟨w.heap.size, 0, none⟩ = some (.slice a1 m.vars.length c1) := blk9 HS1.out.mod 0 _ HMB.out.1
              have v0 : wr.cell? ⟨B, 0, none⟩ = some (.string nm) := blk9 HVB1.out 0 _ rfl
              have v1 : wr.cell? ⟨B, 1, none⟩ = some (.int .i64 lo) := blk9 HVB1.out 1 _ rfl
              have v2 : wr.cell? ⟨B, 2, none⟩ = some (.int .i64 hi) := blk9 HVB1.out 2 _ rfl
              by_cases hltj : j < k
              · obtain ⟨u, hu⟩ : ∃ u, m.vars[j]? = some u := ⟨m.vars[j], by simp⟩
                have hu2 : (m.vars.take k)[j]? = some u := by rw [List.getElem?_take, if_pos hltj]; exact hu
                obtain ⟨a9, c9, e9, _, hr⟩ := (HMA.out _ HS1.out.bel).1
                injection e9 with e91 _ e92
                rw [← e91] at hr
                clear e91 e92
                obtain ⟨hts, b2, off2, ha, hb2, n0, n1, n2⟩ := hr j u hu
                rw [ha] at m0
                have HU : Hid (m.vars[j]? = some u) := hu
                have HU2 : Hid ((m.vars.take k)[j]? = some u) := hu2
                clear hr ha hts hu hu2 n1 n2
                cases hq : (u.name.toList == nm.toList)
                · have HN : Hid (twiceB (m.vars.take (j + 1)) nm = false) := by
                    show _ = _
                    have h1 := htw.out
                    unfold twiceB at h1 ⊢
                    rw [List.take_add_one, HU.out, List.any_append, h1]
                    simp [hq]
                  clear htw
                  go_wp2
                  go_quiet (fail)
                  go_wp2
                  have HB9 : Hid (Below wr.heap.size wr (wr.drewN nq)) := below_drewN (Below.refl _ _) _
                  go_roundw
                  case rel => exact ⟨j + 1, by omega, by go_num, HN, HS1.out.below HB9.out, (HB9.out.block _ (Array.getElem?_eq_some_iff.1 HVB1.out).1).trans HVB1.out⟩
                  case measure => simp [intOf]; omega
                · have HN : Hid (R = 6) := by
                    have hv : V = 6 := by rw [HV1.out, twice_hit _ nm j u HU2.out hq]; rfl
                    rw [hv] at HHIT; exact HHIT.out (by decide)
                  go_wp2
                  go_quiet (fail)
                  go_wp2
                  go_ret
                  exact ⟨ret_int HN.out.symm, (HS1.out.below (below_drewN (Below.refl _ _) _)).bel⟩
              have hjk : j = k := by omega
              have HV2 : Hid (V = (if inB lo 50 && (inB hi 50 && !decide (hi < lo)) then (if 6 < hi - lo + 1 then 2 else 0) else 3)) := by show _ = _; rw [HV1.out, ← hjk, htw.out]; rfl
              clear HV1 htw m0 hjk
              go_wp2_with fail
              refine (between_any _ _ _ _).mono ?_
              rintro e wz ⟨rfl, rfl⟩
              rw [in50]
              cases h1 : inB lo 50
              · have HN : Hid (R = 3) := by
                  have hv : V = 3 := by rw [HV2.out, h1]; rfl
                  rw [hv] at HHIT; exact HHIT.out (by decide)
                clear h1
                go_wp2
                go_ret
                exact ⟨ret_int HN.out.symm, HS1.out.bel⟩
              have hlo : -50 ≤ lo ∧ lo ≤ 50 := by unfold inB at h1; simp at h1; omega
              go_wp2_with fail
              refine (between_any _ _ _ _).mono ?_
              rintro e wz ⟨rfl, rfl⟩
              rw [in50]
              cases h2 : inB hi 50
              · have HN : Hid (R = 3) := by
                  have hv : V = 3 := by rw [HV2.out, h1, h2]; rfl
                  rw [hv] at HHIT; exact HHIT.out (by decide)
                clear h1 h2
                go_wp2
                go_ret
                exact ⟨ret_int HN.out.symm, HS1.out.bel⟩
              have hhi : -50 ≤ hi ∧ hi ≤ 50 := by unfold inB at h2; simp at h2; omega
              by_cases h3 : hi < lo
              · have HN : Hid (R = 3) := by
                  have hv : V = 3 := by rw [HV2.out, h1, h2, decide_eq_true h3]; rfl
                  rw [hv] at HHIT; exact HHIT.out (by decide)
                clear h1 h2
                go_wp2
                go_ret
                exact ⟨ret_int HN.out.symm, HS1.out.bel⟩
              have HV3 : Hid (V = (if 6 < hi - lo + 1 then 2 else 0)) := by show _ = _; rw [HV2.out, h1, h2, decide_eq_false h3]; rfl
              clear HV2 h1 h2
              by_cases h4 : 6 < hi - lo + 1
              · have HN : Hid (R = 2) := by
                  have hv : V = 2 := by rw [HV3.out, if_pos h4]
                  rw [hv] at HHIT; exact HHIT.out (by decide)
                go_wp2
                go_ret
                exact ⟨ret_int HN.out.symm, HS1.out.bel⟩
              have HN : Hid (firstE ((varL m).take (k + 1)) = 0) := by
                have hv : V = 0 := by rw [HV3.out, if_neg h4]
                rw [hv] at HG
                exact firstE_step _ k hno.out HG.out
              clear HV3 HHIT HG
              go_wp2
              go_roundw
              case rel => exact ⟨k + 1, by omega, by go_num, HN, HS1⟩
              case measure => simp [intOf]; omega
          have HE2 : Hid (R = if firstE (rconL m) = 0 then goalE m else firstE (rconL m)) := by
            have h1 := hno.out
            rw [List.take_of_length_le (by rw [varL_len]; omega)] at h1
            show _ = _
            rw [HE.out, if_pos h1]
          clear HE hno
          go_wp2_with fail
          clear m0 hlt hk hws
          obtain ⟨wa, hwa⟩ : ∃ wa, wr = wa := ⟨_, rfl⟩
          rw [hwa] at HS ⊢
          clear hwa
          go_loopw [7] (fun i wr => ∃ k : Nat, k ≤ m.cons.length ∧ i = .int .i64 k ∧ Hid (firstE ((rconL m).take k) = 0) ∧ Hid (CmS w wr mb)) (fun i _ => m.cons.length - (intOf i).toNat)
          case atStart => exact ⟨0, by omega, rfl, rfl, HS⟩
          case round =>
            clear HS
            obtain ⟨k, hk, rfl, hno, HS⟩ := hrel
            have m0 : wr.cell? ⟨w.heap.size, 0, none⟩ = some (.slice a1 m.vars.length c1) := blk9 HS.out.mod 0 _ HMB.out.1
            have m1 : wr.cell? ⟨w.heap.size, 1, none⟩ = some (.slice a2 m.cons.length c2) := blk9 HS.out.mod 1 _ HMB.out.2.1
            have m2 : wr.cell? ⟨w.heap.size, 2, none⟩ = some (.int .i64 m.goal) := blk9 HS.out.mod 2 _ HMB.out.2.2.1
            have m3 : wr.cell? ⟨w.heap.size, 3, none⟩ = some (.int .i64 m.var) := blk9 HS.out.mod 3 _ HMB.out.2.2.2
            by_cases hlt : k < m.cons.length
            · obtain ⟨t, ht⟩ : ∃ t, m.cons[k]? = some t := ⟨m.cons[k], by simp [hlt]⟩
              have hg := rconL_get m k t ht
              obtain ⟨a9, c9, e9, _, hr⟩ := (HMA.out _ HS.out.bel).2
              injection e9 with e91 _ e92
              rw [← e91] at hr
              clear e91 e92
              obtain ⟨b, off, vv, vc, vr, vl, ha, hb, q0, q1, q2, q3, q4, q5, hka⟩ := hr k t ht
              have hnv := rcheckcon_any m t a1 c1 (.slice a2 m.cons.length c2) vv vc vr vl wr.drew HML.out (KArg.below (Below.refl _ _).drew hka)
              obtain ⟨er, her⟩ : ∃ er, rconE m.vars t = er := ⟨_, rfl⟩
              rw [her] at hg hnv
              have HG : Hid ((rconL m)[k]? = some er) := hg
              obtain ⟨⟨x1, y1, rfl, _, _⟩, ⟨x2, y2, rfl, _, _⟩, ⟨x3, y3, rfl, _, _⟩, ⟨x4, y4, rfl, _, _⟩⟩ := hka
              unfold conV at hnv
              have m1' : wr.cell? ⟨w.heap.size, 1, none⟩ = some (.slice (some ⟨b, off, none⟩) m.cons.length c2) := by rw [← ha]; exact m1
              rw [ha] at hnv
              clear hr ht her hg m1 ha
              go_wp2_with fail
              go_region_law
                (first
                  | (rw [if_pos (by rfl)]; go_simp; go_at_call 31; refine hnv.mono ?_; rintro e w3 ⟨rfl, hb3⟩; have hB3 : Below wr.heap.size wr w3 := (Below.refl _ _).drew.trans hb3; dsimp only))
              all_goals
                have HS3 : Hid (CmS w w3 mb) := HS.out.below hB3
                clear hB3 hb3 hnv
                by_cases he : er = 0
                · subst he
                  have HN : Hid (firstE ((rconL m).take (k + 1)) = 0) := firstE_step _ k hno.out HG.out
                  go_wp2
                  go_roundw
                  case rel => exact ⟨k + 1, by omega, by go_num, HN, HS3⟩
                  case measure => simp [intOf]; omega
                · have HN : Hid (R = er) := by show _ = _; rw [HE2.out, if_neg (by rw [firstE_hit _ k er hno.out HG.out he]; exact he)]; exact firstE_hit _ k er hno.out HG.out he
                  have he2 : (er != 0) = true := by simpa using he
                  clear he
                  go_wp2
                  go_ret
                  exact ⟨ret_int HN.out.symm, HS3.out.bel⟩
            have HE3 : Hid (R = goalE m) := by
              have h1 := hno.out
              rw [List.take_of_length_le (by unfold rconL; rw [List.length_map]; omega)] at h1
              show _ = _
              rw [HE2.out, if_pos h1]
            clear HE2 hno
            obtain ⟨g, hg⟩ : ∃ g, m.goal = g := ⟨_, rfl⟩
            obtain ⟨x, hx⟩ : ∃ x, m.var = x := ⟨_, rfl⟩
            rw [hg] at m2
            rw [hx] at m3
            have HGE : Hid (R = if g = 0 then (if x = 0 then 0 else 1) else if g = 1 ∨ g = 2 then (if isVarB x m.vars.length then 0 else 5) else 7) := by show _ = _; rw [HE3.out, ← hg, ← hx]; rfl
            clear HE3 hg hx
            go_wp2_with fail
            refine (between_any _ _ _ _).mono ?_
            rintro e wz ⟨rfl, rfl⟩
            by_cases hg02 : 0 ≤ g ∧ g ≤ 2
            · have hq : (decide (0 ≤ g) && decide (g ≤ 2)) = true := by rw [Bool.and_eq_true]; simp; omega
              rw [hq]
              by_cases hg0 : g = 0
              · subst hg0
                by_cases hx0 : x = 0
                · subst hx0
                  have HN : Hid (R = 0) := HGE.out
                  go_wp2
                  go_ret
                  exact ⟨ret_int HN.out.symm, HS.out.bel⟩
                · have HN : Hid (R = 1) := by show _ = _; rw [HGE.out, if_pos rfl, if_neg hx0]
                  have hxn : (x != 0) = true := by simpa using hx0
                  clear hx0
                  go_wp2
                  go_ret
                  exact ⟨ret_int HN.out.symm, HS.out.bel⟩
              · have hgn : (g != 0) = true := by simpa using hg0
                have hgz : (g == 0) = false := by simpa using hg0
                have HN0 : Hid (R = if isVarB x m.vars.length then 0 else 5) := by show _ = _; rw [HGE.out, if_neg hg0, if_pos (by omega)]
                clear HGE
                have HWR : Hid (IntKind.i64.wrap ((m.vars.length : Int) - 1) = (m.vars.length : Int) - 1) := by show _ = _; rw [IntKind.wrap_i64]; omega
                go_wp2_with fail
                refine (between_any _ _ _ _).mono ?_
                rintro e wz ⟨rfl, rfl⟩
                try rw [HWR.out]
                rw [isvar_two]
                cases hv : isVarB x m.vars.length
                · have HN : Hid (R = 5) := by show _ = _; rw [HN0.out, hv]; rfl
                  clear hv
                  go_wp2
                  go_ret
                  exact ⟨ret_int HN.out.symm, HS.out.bel⟩
                · have HN : Hid (R = 0) := by show _ = _; rw [HN0.out, hv]; rfl
                  clear hv
                  go_wp2
                  go_ret
                  exact ⟨ret_int HN.out.symm, HS.out.bel⟩
            · have hq : (decide (0 ≤ g) && decide (g ≤ 2)) = false := by rw [Bool.and_eq_false_iff]; simp; omega
              rw [hq]
              have HN : Hid (R = 7) := by show _ = _; rw [HGE.out, if_neg (by omega), if_neg (by omega)]
              go_wp2
              go_ret
              exact ⟨ret_int HN.out.symm, HS.out.bel⟩
end Go.Proofs.YtdjbejlbmaiocabGreatDoor
