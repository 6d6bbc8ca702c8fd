/-
  A model that came in, opened.
-/
import Derived.Test.YtggkbhafbhhhhabGreatDoorModF
import Derived.ProofKit
import Derived.OpenShut
import Derived.ShutString
import Derived.ChangeOld
import Derived.Below
import Derived.SizedLaws
import Derived.Deep.Slices
import Derived.Deep.Strs
import Derived.Lib.SmallJoins
namespace Go.Proofs.YtggkbhafbhhhhabGreatDoor
open Go.ChangeShapes Go.WideShapes Go.ChangeAt Go.RowKit Go.Deep

section
variable {H : Type} {enc : TypeId × Value → H} {w : World} {base : Nat} {spare : Nat → Bool} {held : Bool}

/-- A slice, opened by what its elements are. -/
theorem open_elems {α : Type} [Inhabited α] {t e : TypeId} {size : Nat} (ht : Tryz.prog.underlying t = some (.slice e)) (hc : Tryz.prog.cellsOf e = size) (hsz : 0 < size) (cellsOf : α → List Value) (good : α → Prop)
    (hel : ∀ (n : Nat) (cs' : List Value) (x' : DataW H × List MemPlace), DataW.trod enc Tryz.prog w base spare held n e cs' = some x' → ∃ a : α, cs' = cellsOf a ∧ good a)
    {fuel : Nat} {cs : List Value} {x : DataW H × List MemPlace} (h : DataW.trod enc Tryz.prog w base spare held fuel t cs = some x) :
    ∃ (l : List α) (a : Option Addr) (c : Nat), cs = [.slice a l.length c] ∧ (l.length ≤ c ∧ c ≤ maxLen) ∧ ∀ (i : Nat) (y : α), l[i]? = some y → good y ∧ ∃ b off, a = some ⟨b, off, none⟩ ∧ b < w.heap.size ∧ ∀ (j : Nat) (u : Value), (cellsOf y)[j]? = some u → w.cell? ⟨b, off + (i * size + j), none⟩ = some u := by
  rcases open_slice ht h with ⟨hcs, _⟩ | ⟨a, len, cap, m, n, D, Pl, hcs, _, hl, hcm, hmm, _, hx⟩
  · exact ⟨[], none, 0, hcs, ⟨Nat.le_refl _, Nat.zero_le _⟩, fun i y h => by simp at h⟩
  · have hlm : len ≤ m := by rw [hmm]; split <;> omega
    have each : ∀ i, i < len → ∃ y : α, good y ∧ (cellsOf y).length = size ∧ ∀ j u, (cellsOf y)[j]? = some u → w.cell? (a.add (i * size + j)) = some u := by
      intro i hi
      obtain ⟨cs', hc', ht'⟩ := hx i (by omega)
      obtain ⟨y, rfl, hg⟩ := hel n cs' _ ht'
      obtain ⟨_, hlen, hcell⟩ := World.cells?_some hc'
      rw [hc] at hlen
      refine ⟨y, hg, hlen, fun j u hj => ?_⟩
      have hj3 : j < (cellsOf y).length := (List.getElem?_eq_some_iff.1 hj).1
      have := hcell j (by rw [hc, ← hlen]; exact hj3)
      rw [hc, add_add] at this
      rw [this]; exact hj
    obtain ⟨f, hf⟩ := choose_lt each
    refine ⟨(List.range len).map f, some a, cap, by simpa using hcs, ⟨by simpa using hl, hcm⟩, fun i y hy => ?_⟩
    have hi : i < len := by have := (List.getElem?_eq_some_iff.1 hy).1; simpa using this
    have hyf : y = f i := by simp [hi] at hy; exact hy.symm
    subst hyf
    obtain ⟨hg, hlen, hcell⟩ := hf i hi
    obtain ⟨_, hlen0, hcell0⟩ := hf 0 (by omega)
    obtain ⟨u0, hu0⟩ : ∃ u0, (cellsOf (f 0))[0]? = some u0 := ⟨(cellsOf (f 0))[0]'(by omega), by simp⟩
    have h00 := hcell0 0 u0 hu0
    have hspot : a.spot = none := by simpa [Addr.add] using World.cell?_spot h00
    have hblk : a.block < w.heap.size := by simpa [Addr.add] using World.block_lt_of_cell? w _ h00
    refine ⟨hg, a.block, a.off, ?_, hblk, fun j u hj => ?_⟩
    · obtain ⟨b, off, spot⟩ := a; simp only at hspot; subst hspot; rfl
    · have := hcell j u hj
      obtain ⟨b, off, spot⟩ := a; simp only at hspot; subst hspot
      rwa [add_plain] at this

theorem Tryz.cInt : Tryz.prog.cellsOf 3 = 1 := by kernel_rfl
theorem Tryz.cStr : Tryz.prog.cellsOf 9 = 1 := by kernel_rfl
theorem Tryz.cInts : Tryz.prog.cellsOf 50 = 1 := by kernel_rfl
theorem Tryz.cRows : Tryz.prog.cellsOf 51 = 1 := by kernel_rfl
theorem Tryz.cLits : Tryz.prog.cellsOf 52 = 1 := by kernel_rfl
theorem Tryz.cLit : Tryz.prog.cellsOf 76 = 3 := by kernel_rfl
theorem Tryz.cVar : Tryz.prog.cellsOf 47 = 3 := by kernel_rfl
theorem Tryz.cCon : Tryz.prog.cellsOf 54 = 6 := by kernel_rfl

theorem open_ilist {fuel : Nat} {cs : List Value} {x : DataW H × List MemPlace} (h : DataW.trod enc Tryz.prog w base spare held fuel 50 cs = some x) :
    ∃ v l, cs = [v] ∧ IArg w v l := by
  obtain ⟨l, a, c, hcs, hm, hr⟩ := open_elems (α := Int) Tryz.underlying50 Tryz.cInt (by decide) (fun z => [.int .i64 z]) (fun _ => True)
    (fun n cs' x' h' => by obtain ⟨z, hz, _, _⟩ := DataW.trod_int Tryz.underlying3 h'; exact ⟨z, hz, trivial⟩) h
  refine ⟨_, l, hcs, a, c, rfl, hm, fun i z hz => ?_⟩
  obtain ⟨_, b, off, ha, hb, hc⟩ := hr i z hz
  have := hc 0 _ rfl
  exact ⟨b, off, ha, hb, by simpa using this⟩

theorem open_rlist {fuel : Nat} {cs : List Value} {x : DataW H × List MemPlace} (h : DataW.trod enc Tryz.prog w base spare held fuel 51 cs = some x) :
    ∃ v l, cs = [v] ∧ RArg w v l := by
  obtain ⟨l, a, c, hcs, hm, hr⟩ := open_elems (α := Value × List Int) Tryz.underlying51 Tryz.cInts (by decide) (fun z => [z.1]) (fun z => IArg w z.1 z.2)
    (fun n cs' x' h' => by obtain ⟨v, r, hz, hi⟩ := open_ilist h'; exact ⟨(v, r), hz, hi⟩) h
  refine ⟨_, l.map (·.2), hcs, a, c, by simp, by simpa using hm, fun i r hr' => ?_⟩
  rw [List.getElem?_map] at hr'
  obtain ⟨⟨v, r2⟩, hz, rfl⟩ := Option.map_eq_some_iff.1 hr'
  obtain ⟨hg, b, off, ha, hb, hc⟩ := hr i _ hz
  have := hc 0 _ rfl
  exact ⟨b, off, v, ha, hb, by simpa using this, hg⟩

set_option maxRecDepth 100000 in
theorem one_lit {n : Nat} {cs : List Value} {x : DataW H × List MemPlace} (h : DataW.trod enc Tryz.prog w base spare held n 76 cs = some x) :
    ∃ t : MLit, cs = [.int .i64 t.var, .int .i64 t.op, .int .i64 t.n] := by
  obtain ⟨y0, y1, y2, m, _, hl, h0, h1, h2⟩ := trod_struct3 Tryz.underlying76 h
  rw [Tryz.cLit] at hl
  obtain ⟨k, hk, _, _⟩ := DataW.trod_int Tryz.underlying3 h0
  obtain ⟨p, hp, _, _⟩ := DataW.trod_int Tryz.underlying3 h1
  obtain ⟨s, hs, _, _⟩ := DataW.trod_int Tryz.underlying3 h2
  match cs, hl with
  | [c0, c1, c2], _ =>
    change List.take (Tryz.prog.cellsOf 3) [c0, c1, c2] = _ at hk
    change List.take (Tryz.prog.cellsOf 3) [c1, c2] = _ at hp
    change List.take (Tryz.prog.cellsOf 3) [c2] = _ at hs
    rw [Tryz.cInt] at hk hp hs
    simp at hk hp hs
    exact ⟨⟨k, p, s⟩, by rw [hk, hp, hs]⟩

theorem open_llist {fuel : Nat} {cs : List Value} {x : DataW H × List MemPlace} (h : DataW.trod enc Tryz.prog w base spare held fuel 52 cs = some x) :
    ∃ v l, cs = [v] ∧ LArg w v l := by
  have hinh : Inhabited MLit := ⟨⟨0, 0, 0⟩⟩
  obtain ⟨l, a, c, hcs, hm, hr⟩ := open_elems (α := MLit) Tryz.underlying52 Tryz.cLit (by decide) (fun t => [.int .i64 t.var, .int .i64 t.op, .int .i64 t.n]) (fun _ => True)
    (fun n cs' x' h' => by obtain ⟨t, ht⟩ := one_lit h'; exact ⟨t, ht, trivial⟩) h
  refine ⟨_, l, hcs, a, c, rfl, hm, fun i z hz => ?_⟩
  obtain ⟨_, b, off, ha, hb, hc⟩ := hr i z hz
  have e0 := hc 0 _ rfl
  have e1 := hc 1 _ rfl
  have e2 := hc 2 _ rfl
  rw [← Nat.add_assoc] at e0 e1 e2
  exact ⟨b, off, ha, hb, e0, e1, e2⟩

set_option maxRecDepth 100000 in
theorem one_var {n : Nat} {cs : List Value} {x : DataW H × List MemPlace} (h : DataW.trod enc Tryz.prog w base spare held n 47 cs = some x) :
    ∃ t : MVar, cs = [.string t.name, .int .i64 t.lo, .int .i64 t.hi] ∧ t.name.size ≤ maxLen := by
  obtain ⟨y0, y1, y2, m, _, hl, h0, h1, h2⟩ := trod_struct3 Tryz.underlying47 h
  rw [Tryz.cVar] at hl
  obtain ⟨k, hk, _, hsz⟩ := DataW.trod_string Tryz.underlying9 h0
  obtain ⟨p, hp, _, _⟩ := DataW.trod_int Tryz.underlying3 h1
  obtain ⟨s, hs, _, _⟩ := DataW.trod_int Tryz.underlying3 h2
  match cs, hl with
  | [c0, c1, c2], _ =>
    change List.take (Tryz.prog.cellsOf 9) [c0, c1, c2] = _ at hk
    change List.take (Tryz.prog.cellsOf 3) [c1, c2] = _ at hp
    change List.take (Tryz.prog.cellsOf 3) [c2] = _ at hs
    rw [Tryz.cStr] at hk
    rw [Tryz.cInt] at hp hs
    simp at hk hp hs
    exact ⟨⟨k, p, s⟩, by rw [hk, hp, hs], hsz⟩

theorem open_vlist {fuel : Nat} {cs : List Value} {x : DataW H × List MemPlace} (h : DataW.trod enc Tryz.prog w base spare held fuel 22 cs = some x) :
    ∃ v l, cs = [v] ∧ VArg w v l := by
  have hinh : Inhabited MVar := ⟨⟨ByteArray.empty, 0, 0⟩⟩
  obtain ⟨l, a, c, hcs, hm, hr⟩ := open_elems (α := MVar) Tryz.underlying22 Tryz.cVar (by decide) (fun t => [.string t.name, .int .i64 t.lo, .int .i64 t.hi]) (fun t => t.name.size ≤ maxLen)
    (fun n cs' x' h' => by obtain ⟨t, ht, hs⟩ := one_var h'; exact ⟨t, ht, hs⟩) h
  refine ⟨_, l, hcs, a, c, rfl, hm, fun i z hz => ?_⟩
  obtain ⟨hg, b, off, ha, hb, hc⟩ := hr i z hz
  have e0 := hc 0 _ rfl
  have e1 := hc 1 _ rfl
  have e2 := hc 2 _ rfl
  rw [← Nat.add_assoc] at e0 e1 e2
  exact ⟨hg, b, off, ha, hb, e0, e1, e2⟩

set_option maxRecDepth 100000 in
theorem one_con {n : Nat} {cs : List Value} {x : DataW H × List MemPlace} (h : DataW.trod enc Tryz.prog w base spare held n 54 cs = some x) :
    ∃ (t : MCon) (vv vc vr vl : Value), cs = [.int .i64 t.kind, vv, vc, .int .i64 t.n, vr, vl] ∧ KArg w vv vc vr vl t := by
  obtain ⟨xs, k, _, _, hl, hxl, hf⟩ := DataW.trod_struct Tryz.underlying54 h
  rw [Tryz.cCon] at hl
  match cs, hl, xs, hxl with
  | [c0, c1, c2, c3, c4, c5], _, [y0, y1, y2, y3, y4, y5], _ =>
    have g0 := hf 0 _ rfl
    have g1 := hf 1 _ rfl
    have g2 := hf 2 _ rfl
    have g3 := hf 3 _ rfl
    have g4 := hf 4 _ rfl
    have g5 := hf 5 _ rfl
    obtain ⟨kd, hk, _, _⟩ := DataW.trod_int Tryz.underlying3 g0
    obtain ⟨v1, l1, hv1, i1⟩ := open_ilist g1
    obtain ⟨v2, l2, hv2, i2⟩ := open_ilist g2
    obtain ⟨nn, hn, _, _⟩ := DataW.trod_int Tryz.underlying3 g3
    obtain ⟨v4, l4, hv4, i4⟩ := open_rlist g4
    obtain ⟨v5, l5, hv5, i5⟩ := open_llist g5
    change List.take (Tryz.prog.cellsOf 3) [c0, c1, c2, c3, c4, c5] = _ at hk
    change List.take (Tryz.prog.cellsOf 50) [c1, c2, c3, c4, c5] = _ at hv1
    change List.take (Tryz.prog.cellsOf 50) [c2, c3, c4, c5] = _ at hv2
    change List.take (Tryz.prog.cellsOf 3) [c3, c4, c5] = _ at hn
    change List.take (Tryz.prog.cellsOf 51) [c4, c5] = _ at hv4
    change List.take (Tryz.prog.cellsOf 52) [c5] = _ at hv5
    rw [Tryz.cInt] at hk hn
    rw [Tryz.cInts] at hv1 hv2
    rw [Tryz.cRows] at hv4
    rw [Tryz.cLits] at hv5
    simp at hk hv1 hv2 hn hv4 hv5
    exact ⟨⟨kd, l1, l2, nn, l4, l5⟩, v1, v2, v4, v5, by rw [hk, hv1, hv2, hn, hv4, hv5], i1, i2, i4, i5⟩

theorem open_clist {fuel : Nat} {cs : List Value} {x : DataW H × List MemPlace} (h : DataW.trod enc Tryz.prog w base spare held fuel 23 cs = some x) :
    ∃ v l, cs = [v] ∧ CArg w v l := by
  have hinh : Inhabited (MCon × Value × Value × Value × Value) := ⟨⟨0, [], [], 0, [], []⟩, .bool false, .bool false, .bool false, .bool false⟩
  obtain ⟨l, a, c, hcs, hm, hr⟩ := open_elems (α := MCon × Value × Value × Value × Value) Tryz.underlying23 Tryz.cCon (by decide)
    (fun t => [.int .i64 t.1.kind, t.2.1, t.2.2.1, .int .i64 t.1.n, t.2.2.2.1, t.2.2.2.2]) (fun t => KArg w t.2.1 t.2.2.1 t.2.2.2.1 t.2.2.2.2 t.1)
    (fun n cs' x' h' => by obtain ⟨t, vv, vc, vr, vl, ht, hk⟩ := one_con h'; exact ⟨(t, vv, vc, vr, vl), ht, hk⟩) h
  refine ⟨_, l.map (·.1), hcs, a, c, by simp, by simpa using hm, fun i r hr' => ?_⟩
  rw [List.getElem?_map] at hr'
  obtain ⟨⟨t, vv, vc, vr, vl⟩, hz, rfl⟩ := Option.map_eq_some_iff.1 hr'
  obtain ⟨hg, b, off, ha, hb, hc⟩ := hr i _ hz
  have e0 := hc 0 _ rfl
  have e1 := hc 1 _ rfl
  have e2 := hc 2 _ rfl
  have e3 := hc 3 _ rfl
  have e4 := hc 4 _ rfl
  have e5 := hc 5 _ rfl
  rw [← Nat.add_assoc] at e0 e1 e2 e3 e4 e5
  exact ⟨b, off, vv, vc, vr, vl, ha, hb, e0, e1, e2, e3, e4, e5, hg⟩

theorem Tryz.cModel : Tryz.prog.cellsOf 25 = 4 := by kernel_rfl
set_option maxRecDepth 100000 in
/-- A model by value. -/
theorem open_model {r : Reach} {b0 : Nat} {v : Value} {d : DataW H} {p : List MemPlace} (hv : Value.okWide Tryz.prog w r b0 25 v) (h : DataW.Trod enc Tryz.prog w base spare held 25 v d p) :
    ∃ vs cs m, v = modV vs cs m ∧ MArg w vs cs m := by
  obtain ⟨v0, v1, v2, v3, y0, y1, y2, y3, n, rfl, _, _, h0, h1, h2, h3⟩ := Go.Joins.open_agg4 Tryz.underlying25 (by kernel_rfl) Tryz.cModel hv h
  obtain ⟨a0, l0, e0, i0⟩ := open_vlist h0
  obtain ⟨a1, l1, e1, i1⟩ := open_clist h1
  obtain ⟨g, hg, _, _⟩ := DataW.trod_int Tryz.underlying3 h2
  obtain ⟨q, hq, _, _⟩ := DataW.trod_int Tryz.underlying3 h3
  cases e0; cases e1; cases hg; cases hq
  exact ⟨v0, v1, ⟨l0, l1, g, q⟩, rfl, i0, i1⟩
end
end Go.Proofs.YtggkbhafbhhhhabGreatDoor
