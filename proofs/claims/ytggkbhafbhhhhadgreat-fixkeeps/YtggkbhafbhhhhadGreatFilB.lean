/-
  A trial of values: how it lies in memory. WALK: package filter: meet.
-/
import Derived.Test.YtggkbhafbhhhhadGreatFilA
import Derived.Test.YtggkbhafbhhhhadGreatStoD
import Derived.Deep.RegionHeld3
namespace Go.Proofs.YtggkbhafbhhhhadGreat
open Go.RowKit Go.Maps

theorem Tryz.underPairs : Tryz.prog.underlying 118 = some (.map 124 122) := by kernel_rfl
/-- What was so in an old world, and is so still. -/
def Old (N : Nat) (w : World) (P : World → Prop) : Prop := ∃ w0 : World, w0.heap.size ≤ N ∧ P w0 ∧ Below w0.heap.size w0 w
theorem Old.below {N : Nat} {w w' : World} {P : World → Prop} (h : Old N w P) (hb : Below N w w') : Old N w' P := by
  obtain ⟨w0, h1, h2, h3⟩ := h
  exact ⟨w0, h1, h2, h3.trans (hb.mono h1)⟩
theorem bk_cell {w : World} {b : Nat} {cs : Array Value} {t : TypeId} (h : w.heap[b]? = some (.cells cs t)) (i : Nat) (v : Value) (hv : cs[i]? = some v) : w.cell? ⟨b, i, none⟩ = some v := by
  rw [Lib.cell_of_heap h]; exact hv

def trialObj (c : MCon) (vv vc vr vl sv stv : Value) (V n M : Nat) : Obj :=
  .cells #[.int .i64 c.kind, vv, vc, .int .i64 c.n, vr, vl, sv, stv, .slice (some ⟨V, 0, none⟩) n n, .map (some M)] 120
def TrialS (N B V M : Nat) (c : MCon) (vv vc vr vl sv stv : Value) (scope : List Int) (s : Sto) (vals : List Int) (l : List (Int × Int)) (w : World) : Prop :=
  (N ≤ B ∧ N ≤ V ∧ N ≤ M ∧ B ≠ V ∧ B ≠ M ∧ V ≠ M) ∧
  w.heap[B]? = some (trialObj c vv vc vr vl sv stv V vals.length M) ∧
  Old N w (fun u => KArg u vv vc vr vl c ∧ IArg u sv scope ∧ RArg u stv s) ∧
  w.ownsRow N 3 1 (.slice (some ⟨V, 0, none⟩) vals.length vals.length) vals.length (vals.map (Value.int .i64)) ∧
  w.ownsMap Tryz.prog 124 unitElem M l.length (setP (H := Unit) l)

section
variable {N B V M : Nat} {c : MCon} {vv vc vr vl sv stv : Value} {scope : List Int} {s : Sto} {vals : List Int} {l : List (Int × Int)} {w w' : World}
theorem TrialS.lts (h : TrialS N B V M c vv vc vr vl sv stv scope s vals l w) : B < w.heap.size ∧ V < w.heap.size ∧ M < w.heap.size ∧ N ≤ w.heap.size := by
  obtain ⟨⟨h1, _⟩, h2, _, h4, ⟨es, cl, h5, _⟩⟩ := h
  have hb := (Array.getElem?_eq_some_iff.1 h2).1
  have hm := (Array.getElem?_eq_some_iff.1 h5).1
  exact ⟨hb, (h4.lt V rfl).2, hm, by omega⟩
theorem TrialS.below (h : TrialS N B V M c vv vc vr vl sv stv scope s vals l w) (hb : Below w.heap.size w w') : TrialS N B V M c vv vc vr vl sv stv scope s vals l w' := by
  obtain ⟨l1, l2, l3, l4⟩ := h.lts
  obtain ⟨h1, h2, h3, h4, ⟨es, cl, h5, r⟩⟩ := h
  exact ⟨h1, (hb.block B l1).trans h2, h3.below (hb.mono l4), own_below h4 hb, ⟨es, cl, (hb.block M l3).trans h5, r⟩⟩
theorem TrialS.drew (h : TrialS N B V M c vv vc vr vl sv stv scope s vals l w) : TrialS N B V M c vv vc vr vl sv stv scope s vals l w.drew := h.below (Below.refl _ _).drew
theorem TrialS.parts (h : TrialS N B V M c vv vc vr vl sv stv scope s vals l w) : KArg w vv vc vr vl c ∧ IArg w sv scope ∧ RArg w stv s := by
  obtain ⟨_, _, ⟨w0, h1, ⟨k1, k2, k3⟩, h3⟩, _, _⟩ := h
  exact ⟨KArg.below h3 k1, IArg.below h3 k2, RArg.below h3 k3⟩
theorem TrialS.vals_arg (h : TrialS N B V M c vv vc vr vl sv stv scope s vals l w) : IArg w (.slice (some ⟨V, 0, none⟩) vals.length vals.length) vals := own_ints h.2.2.2.1
/-- One more key. -/
theorem TrialS.put (h : TrialS N B V M c vv vc vr vl sv stv scope s vals l w) (p : Int × Int) (hm : w'.ownsMap Tryz.prog 124 unitElem M (l.length + 1) (setP (H := Unit) (l ++ [p]))) (hg : w.grownBy w' (some M)) :
    TrialS N B V M c vv vc vr vl sv stv scope s vals (l ++ [p]) w' ∧ Below N w w' := by
  obtain ⟨l1, l2, l3, l4⟩ := h.lts
  obtain ⟨⟨n1, n2, n3, n4, n5, n6⟩, h2, h3, h4, _⟩ := h
  have hb : Below N w w' := (Below.refl _ _).grown hg l4 (fun k hk => by cases hk; exact n3)
  refine ⟨⟨⟨n1, n2, n3, n4, n5, n6⟩, (hg.block B l1 (fun h => n5 (Option.some.inj h))).trans h2, h3.below hb, h4.kept hg (Or.inr fun h => n6 (Option.some.inj h)), by rw [List.length_append]; exact hm⟩, hb⟩
/-- One value set. -/
theorem TrialS.set (h : TrialS N B V M c vv vc vr vl sv stv scope s vals l w) (k : Nat) (x : Int) :
    TrialS N B V M c vv vc vr vl sv stv scope s (vals.set k x) l (w.setCell ⟨V, k, none⟩ (.int .i64 x)) ∧ Below N w (w.setCell ⟨V, k, none⟩ (.int .i64 x)) := by
  obtain ⟨l1, l2, l3, l4⟩ := h.lts
  obtain ⟨⟨n1, n2, n3, n4, n5, n6⟩, h2, h3, h4, ⟨es, cl, h5, r⟩⟩ := h
  have hb : Below N w (w.setCell ⟨V, k, none⟩ (.int .i64 x)) := (Below.refl _ _).setCell n2 _
  refine ⟨⟨⟨n1, n2, n3, n4, n5, n6⟩, ?_, h3.below hb, ?_, ⟨es, cl, (Below.heap_setCell _ _ _ _ (fun h => n6 h.symm)).trans h5, r⟩⟩, hb⟩
  · rw [List.length_set]; exact (Below.heap_setCell _ _ _ _ n4).trans h2
  · have := (h4.stored k (.int .i64 x)).1
    rw [List.length_set, List.map_set]
    exact this
end

theorem keys_next (scope vals : List Int) (k : Nat) (v : Int) (h : scope[k]? = some v) : keysOf (scope.take (k + 1)) vals = keysOf (scope.take k) vals ++ [(v, valAt vals v)] := by
  unfold keysOf; rw [List.take_add_one, h, List.map_append]; rfl

set_option maxHeartbeats 1600000 in
set_option maxRecDepth 100000 in
theorem meet_any (N B V M : Nat) (c : MCon) (vv vc vr vl sv stv : Value) (scope : List Int) (s : Sto) (vals : List Int) (l : List (Int × Int)) (w : World)
    (hT : TrialS N B V M c vv vc vr vl sv stv scope s vals l w) (hsc : ∀ v ∈ scope, 0 ≤ v ∧ v < vals.length) (hvb : ∀ x ∈ vals, -50 ≤ x ∧ x ≤ 50) (hn : scope.length ≤ 8) (hv6 : vals.length ≤ 6) (hbud : l.length + scope.length ≤ 1000000000) :
    Calls Tryz.prog 131 #[.pointer (some ⟨B, 0, none⟩)] w fun e w' => e = .returned (.tuple #[]) ∧ TrialS N B V M c vv vc vr vl sv stv scope s vals (l ++ keysOf scope vals) w' ∧ Below N w w' := by
  obtain ⟨asv, csv, hsv, hms, _⟩ := hT.parts.2.1
  subst hsv
  unfold maxLen at hms
  obtain ⟨hms1, hms⟩ := hms
  have b6 := bk_cell hT.2.1 6 _ rfl
  have HT : Hid (TrialS N B V M c vv vc vr vl (.slice asv scope.length csv) stv scope s vals l w) := hT
  have HSC : Hid (∀ v ∈ scope, 0 ≤ v ∧ v < (vals.length : Int)) := hsc
  have HVB : Hid (∀ x ∈ vals, -50 ≤ x ∧ x ≤ 50) := hvb
  clear hT hsc hvb
  go_enter Tryz.func131, Tryz.ntmps131
  go_wp2_with fail
  clear b6
  go_loopw [9] (fun i wr => ∃ k : Nat, k ≤ scope.length ∧ i = .int .i64 k ∧ TrialS N B V M c vv vc vr vl (.slice asv scope.length csv) stv scope s vals (l ++ keysOf (scope.take k) vals) wr ∧ Below N w wr) (fun i _ => scope.length - (intOf i).toNat)
  case atStart => exact ⟨0, by omega, rfl, by simpa [keysOf] using HT.out, Below.refl _ _⟩
  case round =>
    obtain ⟨k, hk, rfl, hTr, hbw⟩ := hrel
    have HTR : Hid (TrialS N B V M c vv vc vr vl (.slice asv scope.length csv) stv scope s vals (l ++ keysOf (scope.take k) vals) wr) := hTr
    have HBW : Hid (Below N w wr) := hbw
    clear hTr hbw
    by_cases hlt : k < scope.length
    · obtain ⟨z, hz⟩ : ∃ z, scope[k]? = some z := ⟨scope[k], by simp [hlt]⟩
      obtain ⟨hz0, hz1⟩ := HSC.out z (List.mem_of_getElem? hz)
      obtain ⟨j, rfl⟩ : ∃ j : Nat, z = (j : Int) := ⟨z.toNat, by omega⟩
      have hjl : j < vals.length := by omega
      obtain ⟨y, hy⟩ : ∃ y, vals[j]? = some y := ⟨vals[j], by simp [hjl]⟩
      have hyb := HVB.out y (List.mem_of_getElem? hy)
      obtain ⟨a', c', hva, _, hrc⟩ := HTR.out.parts.2.1
      obtain ⟨bs, os, hax, hbs, e0⟩ := hrc k _ hz
      have has : asv = some ⟨bs, os, none⟩ := by injection hva with e1; exact e1.trans hax
      subst has
      have c9 := bk_cell HTR.out.2.1 9 _ rfl
      have c8 := bk_cell HTR.out.2.1 8 _ rfl
      have HOW := HTR.out.2.2.2.1
      have cv : wr.cell? ⟨V, j, none⟩ = some (.int .i64 y) := by rw [HOW.cellAt j (by omega), List.getElem?_map, hy]; rfl
      obtain ⟨l1, l2, l3, l4⟩ := HTR.out.lts
      have hkey : keyOf Tryz.prog 124 (.agg #[.int .i64 (j : Int), .int .i64 y]) = some (pairK (j : Int) y) := keyOf_pair _ _ (by unfold okInt; omega) (by unfold okInt; omega)
      have hlen : (l ++ keysOf (scope.take k) vals).length < maxLen := by
        have : (keysOf (scope.take k) vals).length ≤ scope.length := by unfold keysOf; simp; omega
        rw [List.length_append]; unfold maxLen; omega
      obtain ⟨w1, hrun, hown1, hturn⟩ := World.ownsMap.store (w := wr.drew) HTR.out.drew.2.2.2.2 Tryz.pairKeyed Tryz.underPairs hlen hkey unitElem_mk
      have hgr := hturn.grown
      have hne : (B ≠ M ∧ V ≠ M) := ⟨HTR.out.1.2.2.2.2.1, HTR.out.1.2.2.2.2.2⟩
      have f9 : w1.cell? ⟨B, 9, none⟩ = some (.map (some M)) := hgr.cell (a := ⟨B, 9, none⟩) c9 (fun h => hne.1 (Option.some.inj h))
      have f8 : w1.cell? ⟨B, 8, none⟩ = some (.slice (some ⟨V, 0, none⟩) vals.length vals.length) := hgr.cell (a := ⟨B, 8, none⟩) c8 (fun h => hne.1 (Option.some.inj h))
      have fv : w1.cell? ⟨V, j, none⟩ = some (.int .i64 y) := hgr.cell (a := ⟨V, j, none⟩) cv (fun h => hne.2 (Option.some.inj h))
      have HPUT : Hid (TrialS N B V M c vv vc vr vl (.slice (some ⟨bs, os, none⟩) scope.length csv) stv scope s vals ((l ++ keysOf (scope.take k) vals) ++ [((j : Int), y)]) w1 ∧ Below N wr.drew w1) := HTR.out.drew.put ((j : Int), y) (by rw [setP_next]; exact hown1) hgr
      have HNX : Hid (keysOf (scope.take (k + 1)) vals = keysOf (scope.take k) vals ++ [((j : Int), y)]) := by
        show _ = _; rw [keys_next scope vals k _ hz, valAt_get vals j y hy]
      clear hz hy hva hrc hax HOW hkey hlen hown1 hturn hgr hne hz0 hz1
      go_wp2_with fail
      go_region_held3 (fun w' => w'.cell? ⟨B, 9, none⟩ = some (.map (some M)) ∧ w'.cell? ⟨B, 8, none⟩ = some (.slice (some ⟨V, 0, none⟩) vals.length vals.length) ∧ w'.cell? ⟨V, j, none⟩ = some (.int .i64 y)) (first | exact ⟨c9, c8, cv⟩ | exact ⟨f9, f8, fv⟩) (fail)
      go_wp2
      go_roundw
      case rel => exact ⟨k + 1, by omega, by go_num, by rw [HNX.out, ← List.append_assoc]; exact HPUT.out.1, HBW.out.trans ⟨HPUT.out.2.os, HPUT.out.2.tape, HPUT.out.2.output, HPUT.out.2.size, HPUT.out.2.block⟩⟩
      case measure => simp [intOf]; omega
    · have HF : Hid (TrialS N B V M c vv vc vr vl (.slice asv scope.length csv) stv scope s vals (l ++ keysOf scope vals) wr) := by
        have h := HTR.out
        rwa [List.take_of_length_le (by omega)] at h
      go_wp2
      go_end0
      exact ⟨rfl, HF.out, HBW.out⟩
end Go.Proofs.YtggkbhafbhhhhadGreat
