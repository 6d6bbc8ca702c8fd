/-
  PART 10 of what the proof leans on (BstC, BstD, TwoPlain, TwoPts, BstQ, RefI, RefL, BstE, ModQ2, ModR, ModU, BstF).
-/
import Derived.Test.YtdjbejlbmaiocagGreatDoorPartI
import Derived.KernelRfl
import Derived.Deep.QuietTactic
import Derived.BigQuiet
import Derived.Deep.RegionHeld3
/-
  WALK: package best: climb.
-/
namespace Go.Proofs.YtdjbejlbmaiocagGreatDoor
open Go.RowKit Go.Maps

theorem SkD.setO {W w : World} {s r mb : Nat} {sv pv cv prv pav : Value} {L : List SV} {M : List Nat} {S : Sk} {C : Nat} {cs : Array Value} {t : TypeId} (h : SkD W w s r mb sv pv cv prv pav L M S) (hC : w.heap[C]? = some (.cells cs t)) (ht : TNo t) (hCW : W.heap.size ≤ C) (i : Nat) (u : Value) : SkD W (w.setCell ⟨C, i, none⟩ u) s r mb sv pv cv prv pav L M S := by
  have hne : ∀ (q : Nat) (cs' : Array Value) (t' : TypeId), w.heap[q]? = some (.cells cs' t') → t' ≠ t → q ≠ C := fun q cs' t' hq hn he => by
    subst he
    have := hq.symm.trans hC
    simp only [Option.some.injEq, Obj.cells.injEq] at this
    exact hn this.2.1
  exact ⟨(heap_other w ⟨C, i, none⟩ u r (hne r _ _ h.blkR (Ne.symm ht.1))).trans h.blkR, (heap_other w ⟨C, i, none⟩ u s (hne s _ _ h.blkS (Ne.symm ht.2.1))).trans h.blkS, own_set h.own hC ht.2.2.1 i u, h.lt36, h.prf.set hC ht.2.2.2.1 ht.2.2.2.2 i u, h.prfE, h.map.setCell (Ne.symm (blk_not_map hC h.map)) u, own_set h.path hC ht.2.2.2.2 i u, h.apart, h.fr.setNew (p := ⟨C, i, none⟩) hCW u⟩
theorem tno_climber : TNo 78 := by unfold TNo; decide
theorem tno_ans : TNo 29 := by unfold TNo; decide
theorem tno_mod : TNo 25 := by unfold TNo; decide
theorem tno_int : TNo 3 := by unfold TNo; decide
theorem TFr.ofAdd {W w w' : World} {s r mb : Nat} {sv pv cv prv pav : Value} {L : List SV} {M : List Nat} {S : Sk} (h : SkD W w s r mb sv pv cv prv pav L M S) (hf : Fr (fun k => k = r ∨ cv.ownBlock = some k) w w') : TFr w w' :=
  ⟨hf.os, hf.tape, hf.output, hf.size, fun k cs t z hk ht => hf.block k (Array.getElem?_eq_some_iff.1 hk).1 fun hx => by
    rcases hx with hx | hx
    · subst hx
      have := hk.symm.trans h.blkR
      simp only [Option.some.injEq, Obj.cells.injEq] at this
      rw [this.2.1] at ht
      exact tno_rul ht
    · rcases h.own.2 with ⟨hv, _⟩ | ⟨g, cap, cur, hv, _, hh, _⟩
      · rw [hv] at hx; cases hx
      · rw [hv] at hx
        have : g = k := by simpa [Value.ownBlock] using hx
        subst this
        have := hk.symm.trans hh
        simp only [Option.some.injEq, Obj.cells.injEq] at this
        rw [this.2.1] at ht
        exact tno_part ht⟩
structure ClS (m : Mod) (A : Ans) (W : World) (s r mb C qm qa : Nat) (sv cs pv : Value) (v x : Value) (wr : World) (R : Int × List Int × Sk) (best : List Int) (bv cv prv pav : Value) (L : List SV) : Prop where
  ans : climbP m R best = A
  ver : v = .int .i64 R.1
  val : wr.ownsRow W.heap.size 3 1 x R.2.1.length (R.2.1.map (Value.int .i64))
  ok : R.1 = 1 → SkO m.vars R.2.2 ∧ R.2.2.cs.length + R.2.2.fuel + roomR m R ≤ 400
  sol : R.1 = 1 → Sol m R.2.1
  sk : SkD W wr s r mb sv pv cv prv pav L (R.2.2.proof.map fun x => heldP m.vars x.cla) R.2.2
  blkC : wr.heap[C]? = some (.cells #[.pointer (some ⟨s, 0, none⟩), bv] 78)
  blkM : wr.heap[qm]? = some (.cells #[sv, cs, .int .i64 m.goal, .int .i64 m.var] 25)
  blkA : wr.heap[qa]? = some (.cells #[.int .i64 0, .slice none 0 0, .slice none 0 0] 29)
  bst : wr.ownsRow W.heap.size 3 1 bv best.length (best.map (Value.int .i64))
def ClI (m : Mod) (A : Ans) (W : World) (s r mb C qm qa : Nat) (sv cs pv : Value) (v x : Value) (wr : World) (n : Nat) : Prop :=
  ∃ (R : Int × List Int × Sk) (best : List Int) (bv cv prv pav : Value) (L : List SV), roomR m R = n ∧ ClS m A W s r mb C qm qa sv cs pv v x wr R best bv cv prv pav L
/-- Next, asked of a searcher among other things. -/
theorem next_among (m : Mod) (hm : checkM m = 0) (W : World) (s r mb : Nat) (sv pv cv prv pav : Value) (hB : SkB W s r mb sv pv m.vars (ptsM m)) (L : List SV) (S : Sk) (hS : SkO m.vars S) (w : World) (hD : SkD W w s r mb sv pv cv prv pav L (S.proof.map fun x => heldP m.vars x.cla) S) :
    Calls Tryz.prog 73 #[.pointer (some ⟨s, 0, none⟩)] w fun e w' => ∃ x, e = .returned (.tuple #[.int .i64 (nextP m.vars (ptsM m) S).1, x]) ∧ w'.ownsRow W.heap.size 3 1 x (nextP m.vars (ptsM m) S).2.1.length ((nextP m.vars (ptsM m) S).2.1.map (Value.int .i64)) ∧ TFr w w' ∧
      ∃ cv' prv' pav' L', SkD W w' s r mb sv pv cv' prv' pav' L' ((nextP m.vars (ptsM m) S).2.2.proof.map fun x => heldP m.vars x.cla) (nextP m.vars (ptsM m) S).2.2 :=
  (snext_any m.vars (vars_all m hm) (vars_one m hm) (ptsM m) W s r mb sv pv cv prv pav hB L S hS w hD).mono (by
    rintro e w' ⟨x, h1, h2, h3, h4⟩
    exact ⟨x, h1, World.ownsRow.mono h2 hD.fr.size, h3, h4⟩)

set_option maxHeartbeats 6400000 in
set_option maxRecDepth 100000 in
theorem climb_any (m : Mod) (hm : checkM m = 0) (hg : m.goal = 1 ∨ m.goal = 2) (fuel : Nat) (hf : fuel ≤ 300) (W : World) (s r mb C : Nat) (sv cs pv : Value) (hB : SkB W s r mb sv pv m.vars (ptsM m)) (w : World)
    (hD : SkD W w s r mb sv pv (.slice none 0 0) (.slice none 0 0) (.slice none 0 0) [] [] ⟨[], fuel, [], []⟩) (hC : w.heap[C]? = some (.cells #[.pointer (some ⟨s, 0, none⟩), .slice none 0 0] 78)) (hCW : W.heap.size ≤ C) :
    Calls Tryz.prog 42 #[.pointer (some ⟨C, 0, none⟩), modV sv cs m] w fun e w' => ∃ vv pp, e = .returned (.agg #[.int .i64 (climbA m fuel).verdict, vv, pp]) ∧ AnsQ W.heap.size w' vv pp (climbA m fuel) ∧ Fr (XS s r mb) W w' := by
  obtain ⟨A, hA⟩ : ∃ A, climbA m fuel = A := ⟨_, rfl⟩
  rw [hA]
  have HA : Hid (climbP m (nextP m.vars (ptsM m) ⟨[], fuel, [], []⟩) [] = A) := hA
  have HSB : Hid (SkB W s r mb sv pv m.vars (ptsM m)) := hB
  have HM : Hid (checkM m = 0) := hm
  have HG : Hid (m.goal = 1 ∨ m.goal = 2) := hg
  have HCW : Hid (W.heap.size ≤ C) := hCW
  have HD0 := (show Hid _ from hD)
  have hWw := hD.fr.size
  have hCl : C < w.heap.size := (Array.getElem?_eq_some_iff.1 hC).1
  have HC0 : Hid (w.heap[C]? = some (.cells #[.pointer (some ⟨s, 0, none⟩), .slice none 0 0] 78)) := hC
  clear hA hD hB hm hg hCW
  unfold modV
  go_enter Tryz.func42, Tryz.ntmps42
  have c0 := blk9 hC 0 _ rfl
  have c1 := blk9 hC 1 _ rfl
  clear hC
  go_wp2_with fail
  obtain ⟨hq1, hq2⟩ := two_blocks w (.cells #[sv, cs, .int .i64 m.goal, .int .i64 m.var] 25) (.cells #[.int .i64 0, .slice none 0 0, .slice none 0 0] 29)
  have hbY : Below w.heap.size w ((w.alloc (.cells #[sv, cs, .int .i64 m.goal, .int .i64 m.var] 25)).alloc (.cells #[.int .i64 0, .slice none 0 0, .slice none 0 0] 29)) := (below_alloc _ _).alloc (by simp) _
  refine (next_among m HM.out W s r mb sv pv _ _ _ HSB.out [] ⟨[], fuel, [], []⟩ (start_ok m.vars (fuel : Int) (by omega)) _ (HD0.out.below hbY)).mono ?_
  rintro e w1 ⟨x, rfl, hox, htf, cv1, prv1, pav1, L1, hd1⟩
  have HI : Hid (∃ n, ClI m A W s r mb C w.heap.size (w.heap.size + 1) sv cs pv (.int .i64 (nextP m.vars (ptsM m) ⟨[], fuel, [], []⟩).1) x w1 n) := by
    refine ⟨_, nextP m.vars (ptsM m) ⟨[], fuel, [], []⟩, [], .slice none 0 0, cv1, prv1, pav1, L1, rfl, HA.out, rfl, hox, fun h => ?_, fun h => (next_found m HM.out _ h).1, hd1, ?_, ?_, ?_, World.ownsRow_nil _ _ _ _⟩
    · obtain ⟨k1, k2⟩ := next_ok1 m.vars (vars_okP m HM.out) (ptsM m) ⟨[], fuel, [], []⟩ (start_ok m.vars (fuel : Int) (by omega)) h
      have := room_le m HM.out (nextP m.vars (ptsM m) ⟨[], fuel, [], []⟩) (fun h => (next_found m HM.out _ h).1)
      refine ⟨k1, ?_⟩
      simp only [List.length_nil] at k2
      omega
    · have h1 := (hbY.block C hCl).trans HC0.out
      exact (htf.block _ _ _ _ h1 tno_climber).trans h1
    · exact (htf.block _ _ _ _ hq1 tno_mod).trans hq1
    · exact (htf.block _ _ _ _ hq2 tno_ans).trans hq2
  obtain ⟨X1, hX1⟩ : ∃ X1, (nextP m.vars (ptsM m) ⟨[], fuel, [], []⟩).1 = X1 := ⟨_, rfl⟩
  rw [hX1] at HI ⊢
  have hql : C < w.heap.size := hCl
  clear hox htf hd1 hq1 hq2 hbY hX1 HA HC0 HD0 c0 c1
  go_wp2_with fail
  go_loopw [5, 6] (fun v x wr => ∃ n, ClI m A W s r mb C w.heap.size (w.heap.size + 1) sv cs pv v x wr n) (fun v x wr => leastOf (ClI m A W s r mb C w.heap.size (w.heap.size + 1) sv cs pv v x wr))
  case atStart => exact HI.out
  case round =>
    have hsp := leastOf_spec hrel
    obtain ⟨N, hN⟩ : ∃ N, leastOf (ClI m A W s r mb C w.heap.size (w.heap.size + 1) sv cs pv u5 u6 wr) = N := ⟨_, rfl⟩
    have HN : Hid (leastOf (ClI m A W s r mb C w.heap.size (w.heap.size + 1) sv cs pv u5 u6 wr) = N) := hN
    rw [hN] at hsp
    clear hrel HI hN
    obtain ⟨R, best, bv, cv, prv, pav, L, hrm, hcl⟩ := hsp
    obtain rfl := hcl.ver
    have HRM : Hid (roomR m R = N) := hrm
    have HCL : Hid (ClS m A W s r mb C w.heap.size (w.heap.size + 1) sv cs pv (.int .i64 R.1) u6 wr R best bv cv prv pav L) := hcl
    obtain ⟨ax, cx, rfl⟩ := own_form hcl.val
    obtain ⟨ab, cb, rfl⟩ := own_form hcl.bst
    have hst := climb_step m HM.out HG.out R best hcl.sol
    rw [hcl.ans] at hst
    have c0 := blk9 hcl.blkC 0 _ rfl
    have c1 := blk9 hcl.blkC 1 _ rfl
    have cz := frz9 hcl.blkC 1
    have cl := (Array.getElem?_eq_some_iff.1 hcl.blkC).1
    have hWr := hcl.sk.fr.size
    clear hrm hcl
    by_cases h1 : R.1 = 1
    · rw [if_pos h1] at hst
      have HST : Hid (A = climbP m (nextP m.vars (ptsM m) (moreSk m R)) R.2.1) := hst
      have HSOL : Hid (Sol m R.2.1) := HCL.out.sol h1
      have HOK : Hid (SkO m.vars R.2.2 ∧ R.2.2.cs.length + R.2.2.fuel + roomR m R ≤ 400) := HCL.out.ok h1
      have HROOM : Hid (roomR m (nextP m.vars (ptsM m) (moreSk m R)) < N) := by rw [← HRM.out]; exact climb_room m HM.out HG.out R h1 HSOL.out
      rw [h1] at HN ⊢
      have HKY : Hid (SkD W (wr.setCell ⟨C, 1, none⟩ (.slice ax R.2.1.length cx)) s r mb sv pv cv prv pav L (R.2.2.proof.map fun x => heldP m.vars x.cla) R.2.2) := HCL.out.sk.setO HCL.out.blkC tno_climber HCW.out 1 _
      have HCY : Hid ((wr.setCell ⟨C, 1, none⟩ (.slice ax R.2.1.length cx)).heap[C]? = some (.cells #[.pointer (some ⟨s, 0, none⟩), .slice ax R.2.1.length cx] 78)) := by show _ = _; rw [heap_setCell_same wr C 1 _ _ _ HCL.out.blkC]; rfl
      have hnC : ∀ (q : Nat) (cs' : Array Value) (t' : TypeId), wr.heap[q]? = some (.cells cs' t') → t' ≠ 78 → q ≠ C := fun q cs' t' hq hn he => by
        subst he
        have := hq.symm.trans HCL.out.blkC
        simp only [Option.some.injEq, Obj.cells.injEq] at this
        exact hn this.2.1
      have HMY : Hid ((wr.setCell ⟨C, 1, none⟩ (.slice ax R.2.1.length cx)).heap[w.heap.size]? = some (.cells #[sv, cs, .int .i64 m.goal, .int .i64 m.var] 25)) := (heap_other wr ⟨C, 1, none⟩ _ _ (hnC _ _ _ HCL.out.blkM (by decide))).trans HCL.out.blkM
      have HAY : Hid ((wr.setCell ⟨C, 1, none⟩ (.slice ax R.2.1.length cx)).heap[w.heap.size + 1]? = some (.cells #[.int .i64 0, .slice none 0 0, .slice none 0 0] 29)) := (heap_other wr ⟨C, 1, none⟩ _ _ (hnC _ _ _ HCL.out.blkA (by decide))).trans HCL.out.blkA
      have HVY : Hid ((wr.setCell ⟨C, 1, none⟩ (.slice ax R.2.1.length cx)).ownsRow W.heap.size 3 1 (.slice ax R.2.1.length cx) R.2.1.length (R.2.1.map (Value.int .i64))) := own_set HCL.out.val HCL.out.blkC (by decide) 1 _
      clear hst h1 hnC
      go_wp2_with fail
      obtain ⟨Y, hY⟩ : ∃ Y, wr.setCell ⟨C, 1, none⟩ (.slice ax R.2.1.length cx) = Y := ⟨_, rfl⟩
      rw [hY] at HKY HCY HMY HAY HVY ⊢
      clear hY c0 c1 cz cl HCL
      have c0 := blk9 HCY.out 0 _ rfl
      have cl := (Array.getElem?_eq_some_iff.1 HCY.out).1
      have m0 := blk9 HMY.out 0 _ rfl
      have m1 := blk9 HMY.out 1 _ rfl
      have m2 := blk9 HMY.out 2 _ rfl
      have m3 := blk9 HMY.out 3 _ rfl
      have ml := (Array.getElem?_eq_some_iff.1 HMY.out).1
      obtain ⟨s0, s1, s2, s3, s4, s5, s6⟩ := HKY.out.cells
      have HBT : Hid (∀ Z, Below Y.heap.size Y Z → Calls Tryz.prog 89 #[.agg #[sv, cs, .int .i64 m.goal, .int .i64 m.var], .slice ax R.2.1.length cx] Z fun e w' => ∃ x, e = .returned x ∧ LOwn Z.heap.size w' x (betterC m R.2.1) ∧ Below Z.heap.size Z w') := fun Z hZ => by
        obtain ⟨q1, q2, _⟩ := goal_var m HM.out
        have hr := sol_range m HM.out _ HSOL.out
        have hb := vars_bounds m HM.out m.var.toNat (by omega)
        refine better_any m R.2.1 ⟨q1, by rw [HSOL.out.1.1]; exact q2⟩ ⟨by omega, by omega⟩ sv cs _ Z (own_ilist (own_below HVY.out hZ))
      have hcs : R.2.2.cs.length ≤ 1000 := by have := HOK.out.2; omega
      go_region_law
        (first
          | (rw [if_pos (by rfl)]; go_simp; go_at_call 89; refine (HBT.out _ (Below.refl _ _).drew).mono ?_; rintro e w3 ⟨x, rfl, hx3, hb3⟩; have hB3 : Below Y.heap.size Y w3 := (Below.refl _ _).drew.trans hb3; obtain ⟨a3, c3, hxf⟩ := own_form (show w3.ownsRow _ _ _ _ _ _ from hx3); subst hxf; have e0 := (hB3.cell (p := ⟨C, 0, none⟩) cl).trans c0; have e1 := (hB3.cell (p := ⟨s, 1, none⟩) s0).trans s2; have el : C < w3.heap.size := Nat.lt_of_lt_of_le cl hB3.size; have el2 : s < w3.heap.size := Nat.lt_of_lt_of_le s0 hB3.size; dsimp only)
          | (rw [if_pos (by rfl)]; go_simp; go_at_call 88; refine (add_any m.vars (vars_all m HM.out) (ptsM m) R.2.2.cs (by omega) (betterC m R.2.1) (oldW w3 W.heap.size) r sv pv cv _ w3 ((HKY.out.below hB3).rul HSB.out) (HKY.out.below hB3).rulD (LOwn.arg hx3)).mono ?_; rintro e w4 ⟨rfl, cv4, hr4, hf4⟩; dsimp only))
      all_goals
        have HK4 := (HKY.out.below hB3).add (oldW_size w3 _ (HKY.out.below hB3).fr.size) hr4 hf4
        have HT4 : TFr Y w4 := (TFr.below hB3).trans (TFr.ofAdd (HKY.out.below hB3) hf4)
        have HC4 := (HT4.block _ _ _ _ HCY.out tno_climber).trans HCY.out
        have HM4 := (HT4.block _ _ _ _ HMY.out tno_mod).trans HMY.out
        have HA4 := (HT4.block _ _ _ _ HAY.out tno_ans).trans HAY.out
        have HV4 := HT4.own HVY.out tno_int
        have HSK4 : Hid (SkD W w4 s r mb sv pv cv4 prv pav L ((moreSk m R).proof.map fun x => heldP m.vars x.cla) (moreSk m R)) := HK4
        have HC4' := (show Hid _ from HC4)
        have HM4' := (show Hid _ from HM4)
        have HA4' := (show Hid _ from HA4)
        have HV4' := (show Hid _ from HV4)
        have f0 := blk9 HC4 0 _ rfl
        have fl := (Array.getElem?_eq_some_iff.1 HC4).1
        clear HK4 HT4 HC4 HM4 HA4 HV4 hr4 hf4 hx3 hb3 hB3 e0 e1 el el2 c0 cl m0 m1 m2 m3 ml s0 s1 s2 s3 s4 s5 s6
        go_wp2_with fail
        refine (next_among m HM.out W s r mb sv pv _ _ _ HSB.out L (moreSk m R) ⟨HOK.out.1.prf, by have := HOK.out.2; unfold moreSk; simp only [List.length_append, List.length_singleton]; omega, HOK.out.1.path⟩ w4 HSK4.out).mono ?_
        rintro e w5 ⟨x5, rfl, hox5, htf5, cv5, prv5, pav5, L5, hd5⟩
        have HNI : Hid (ClI m A W s r mb C w.heap.size (w.heap.size + 1) sv cs pv (.int .i64 (nextP m.vars (ptsM m) (moreSk m R)).1) x5 w5 (roomR m (nextP m.vars (ptsM m) (moreSk m R)))) := by
          refine ⟨_, R.2.1, .slice ax R.2.1.length cx, cv5, prv5, pav5, L5, rfl, HST.out.symm, rfl, hox5, fun h => ?_, fun h => (next_found m HM.out _ h).1, hd5, (htf5.block _ _ _ _ HC4'.out tno_climber).trans HC4'.out, (htf5.block _ _ _ _ HM4'.out tno_mod).trans HM4'.out, (htf5.block _ _ _ _ HA4'.out tno_ans).trans HA4'.out, htf5.own HV4'.out tno_int⟩
          obtain ⟨k1, k2⟩ := next_ok1 m.vars (vars_okP m HM.out) (ptsM m) (moreSk m R) ⟨HOK.out.1.prf, by have := HOK.out.2; unfold moreSk; simp only [List.length_append, List.length_singleton]; omega, HOK.out.1.path⟩ h
          refine ⟨k1, ?_⟩
          have h2 := HROOM.out
          have h3 := HRM.out
          have h4 := HOK.out.2
          have h5 : (moreSk m R).cs.length + (moreSk m R).fuel = R.2.2.cs.length + 1 + R.2.2.fuel := by unfold moreSk; simp only [List.length_append, List.length_singleton]
          omega
        obtain ⟨X5, hX5⟩ : ∃ X5, (nextP m.vars (ptsM m) (moreSk m R)).1 = X5 := ⟨_, rfl⟩
        rw [hX5] at HNI ⊢
        clear hox5 htf5 hd5 hX5 f0 fl
        go_wp2
        go_roundw
        case rel => exact ⟨_, HNI.out⟩
        case measure => exact Nat.lt_of_le_of_lt (leastOf_le HNI.out) (by rw [HN.out]; exact HROOM.out)
    · rw [if_neg h1] at hst
      have h1' : (R.1 == 1) = false := by simpa using h1
      have r0 := blk9 HCL.out.blkA 0 _ rfl
      have r1 := blk9 HCL.out.blkA 1 _ rfl
      have r2 := blk9 HCL.out.blkA 2 _ rfl
      have z0 := frz9 HCL.out.blkA 0
      have z1 := frz9 HCL.out.blkA 1
      have z2 := frz9 HCL.out.blkA 2
      have rl := (Array.getElem?_eq_some_iff.1 HCL.out.blkA).1
      have HFR : Hid (∀ u0 u1 u2, Fr (XS s r mb) W (((wr.setCell ⟨w.heap.size + 1, 0, none⟩ u0).setCell ⟨w.heap.size + 1, 1, none⟩ u1).setCell ⟨w.heap.size + 1, 2, none⟩ u2)) := fun u0 u1 u2 =>
        ((HCL.out.sk.fr.setNew (p := ⟨w.heap.size + 1, 0, none⟩) (by simp only; omega) u0).setNew (p := ⟨w.heap.size + 1, 1, none⟩) (by simp only; omega) u1).setNew (p := ⟨w.heap.size + 1, 2, none⟩) (by simp only; omega) u2
      have HBA : Hid (wr.heap[w.heap.size + 1]? = some (.cells #[.int .i64 0, .slice none 0 0, .slice none 0 0] 29)) := HCL.out.blkA
      have HBV : Hid (wr.ownsRow W.heap.size 3 1 (.slice ab best.length cb) best.length (best.map (Value.int .i64))) := HCL.out.bst
      have HSK := (show Hid _ from HCL.out.sk)
      obtain ⟨apr, cpr, rfl⟩ := own_form HCL.out.sk.prf.1
      obtain ⟨s0, s1, s2, s3, s4, s5, s6⟩ := HCL.out.sk.cells
      by_cases h3 : R.1 = 3
      · rw [if_pos h3] at hst
        have HN3 : Hid (A = ⟨3, [], []⟩) := hst
        rw [h3]
        clear hst h1 h1' h3 HN HCL HSK c0 c1 cz cl s0 s1 s2 s3 s4 s5 s6
        go_wp2
        refine bodyPost_ret (by simp [results, Tryz.results42, go_sem, *]; try rfl) rfl ?_
        rw [HN3.out]
        exact ⟨_, _, rfl, ansq_no _ _ _, HFR.out _ _ _⟩
      · rw [if_neg h3] at hst
        have h3' : (R.1 == 3) = false := by simpa using h3
        by_cases hb : 0 < best.length
        · rw [if_pos hb] at hst
          have HN3 : Hid (A = ⟨1, best, R.2.2.proof⟩) := hst
          have hb' : (0 : Int) < (best.length : Int) := by omega
          have hb2 : ¬ best = [] := fun h => by rw [h] at hb; cases hb
          have HQ : Hid (∀ u0 u1 u2, AnsQ W.heap.size (((wr.setCell ⟨w.heap.size + 1, 0, none⟩ u0).setCell ⟨w.heap.size + 1, 1, none⟩ u1).setCell ⟨w.heap.size + 1, 2, none⟩ u2) (.slice ab best.length cb) (.slice apr L.length cpr) ⟨1, best, R.2.2.proof⟩) := fun u0 u1 u2 =>
            AnsQ.set3 (w := wr) ⟨HBV.out, L, HSK.out.prf, HSK.out.prfE⟩ HBA.out u0 u1 u2
          clear hst h1 h3 HN HCL HSK cz
          obtain ⟨V1, hV1⟩ : ∃ V1, R.1 = V1 := ⟨_, rfl⟩
          rw [hV1] at h1' h3' ⊢
          clear hV1
          go_wp2_with fail
          go_region_law (fail)
          all_goals
            go_wp2
            refine bodyPost_ret (by simp [results, Tryz.results42, go_sem, *]; try rfl) rfl ?_
            rw [HN3.out]
            exact ⟨_, _, rfl, (HQ.out _ _ _).below (Below.refl _ _).drew, (HFR.out _ _ _).trans (Fr.below (Below.refl _ _).drew)⟩
        · rw [if_neg hb] at hst
          have HN3 : Hid (A = ⟨R.1, best, R.2.2.proof⟩) := hst
          have hb' : ¬ (0 : Int) < (best.length : Int) := by omega
          have hb2 : best = [] := List.length_eq_zero_iff.1 (by omega)
          have HQ : Hid (∀ u0 u1 u2, AnsQ W.heap.size (((wr.setCell ⟨w.heap.size + 1, 0, none⟩ u0).setCell ⟨w.heap.size + 1, 1, none⟩ u1).setCell ⟨w.heap.size + 1, 2, none⟩ u2) (.slice ab best.length cb) (.slice apr L.length cpr) ⟨R.1, best, R.2.2.proof⟩) := fun u0 u1 u2 =>
            AnsQ.set3 (w := wr) ⟨HBV.out, L, HSK.out.prf, HSK.out.prfE⟩ HBA.out u0 u1 u2
          clear hst h1 h3 HN HCL HSK cz HBV
          obtain ⟨V1, hV1⟩ : ∃ V1, R.1 = V1 := ⟨_, rfl⟩
          rw [hV1] at h1' h3' HN3 HQ ⊢
          subst hb2
          clear hV1
          go_wp2_with fail
          go_region_law (fail)
          all_goals
            go_wp2
            refine bodyPost_ret (by simp [results, Tryz.results42, go_sem, *]; try rfl) rfl ?_
            rw [HN3.out]
            exact ⟨_, _, rfl, (HQ.out _ _ _).below (Below.refl _ _).drew, (HFR.out _ _ _).trans (Fr.below (Below.refl _ _).drew)⟩
end Go.Proofs.YtdjbejlbmaiocagGreatDoor
/-
  WALK: package best: Best.
-/
namespace Go.Proofs.YtdjbejlbmaiocagGreatDoor
open Go.RowKit Go.Maps

theorem AnsQ.mono {base base' : Nat} {w : World} {vv pp : Value} {a : Ans} (h : AnsQ base w vv pp a) (hb : base' ≤ base) : AnsQ base' w vv pp a := by
  obtain ⟨L, h1, h2⟩ := h.prf
  exact ⟨World.ownsRow.mono h.val hb, L, h1.mono hb, h2⟩
theorem AnsQ.forms {base : Nat} {w : World} {vv pp : Value} {a : Ans} (h : AnsQ base w vv pp a) : (∃ a1 c1, vv = .slice a1 a.values.length c1) ∧ ∃ a2 n2 c2, pp = .slice a2 n2 c2 := by
  obtain ⟨L, h1, _⟩ := h.prf
  obtain ⟨a2, c2, h3⟩ := own_form h1.1
  exact ⟨own_form h.val, a2, _, c2, h3⟩

set_option maxHeartbeats 3200000 in
set_option maxRecDepth 100000 in
theorem best_any (m : Mod) (fuel : Int) (vs cs : Value) (w : World) (hma : MArg w vs cs m) (hT : TabT w) :
    Calls Tryz.prog 9 #[modV vs cs m, .int .i64 fuel] w fun e w' => ∃ vv pp, e = .returned (.tuple #[.agg #[.int .i64 (bestA m fuel).1.verdict, vv, pp], .int .i64 (bestA m fuel).2]) ∧ AnsQ w.heap.size w' vv pp (bestA m fuel).1 ∧ Below w.heap.size w w' := by
  have HMA : Hid (∀ w', Below w.heap.size w w' → MArg w' vs cs m) := fun w' h => MArg.below h hma
  have HT : Hid (∀ w', Below w.heap.size w w' → TabT w') := fun w' h => hT.below h
  obtain ⟨⟨a1, c1, rfl, _, _⟩, ⟨a2, c2, rfl, _, _⟩⟩ := hma
  obtain ⟨R, hR⟩ : ∃ R, bestA m fuel = R := ⟨_, rfl⟩
  rw [hR]
  obtain ⟨er, her⟩ : ∃ er, checkM m = er := ⟨_, rfl⟩
  have HER : Hid (checkM m = er) := her
  unfold bestA at hR
  rw [her] at hR
  have HR := (show Hid _ from hR)
  clear hR her hT
  unfold modV
  obtain ⟨HA, HB⟩ := two_blocks w (.cells #[.slice a1 m.vars.length c1, .slice a2 m.cons.length c2, .int .i64 m.goal, .int .i64 m.var] 25) (.cells #[.int .i64 0, .slice none 0 0, .slice none 0 0] 29)
  have hbY : Below w.heap.size w ((w.alloc (.cells #[.slice a1 m.vars.length c1, .slice a2 m.cons.length c2, .int .i64 m.goal, .int .i64 m.var] 25)).alloc (.cells #[.int .i64 0, .slice none 0 0, .slice none 0 0] 29)) := (below_alloc _ _).alloc (by simp) _
  have HAH := (show Hid _ from HA)
  have HBH := (show Hid _ from HB)
  have HBY := (show Hid _ from hbY)
  clear HA HB hbY
  by_cases hg : m.goal = 0
  · have hR := HR.out
    rw [if_pos hg] at hR
    have HRS : Hid (solveA m fuel = R) := hR
    have HSV : Hid (∀ Z, Below w.heap.size w Z → Calls Tryz.prog 32 #[.agg #[.slice a1 m.vars.length c1, .slice a2 m.cons.length c2, .int .i64 m.goal, .int .i64 m.var], .int .i64 fuel] Z fun e w' => ∃ vv pp, e = .returned (.tuple #[.agg #[.int .i64 R.1.verdict, vv, pp], .int .i64 R.2]) ∧ AnsQ Z.heap.size w' vv pp R.1 ∧ Below Z.heap.size Z w') := fun Z hZ => by
      rw [← HRS.out]
      exact solve_any m fuel (.slice a1 m.vars.length c1) (.slice a2 m.cons.length c2) Z (HMA.out _ hZ) (HT.out _ hZ)
    obtain ⟨⟨rv, rx, rp⟩, re⟩ := R
    have hgb : (m.goal == 0) = true := by simpa using hg
    clear hR HR hg HRS
    go_enter Tryz.func9, Tryz.ntmps9
    go_wp2_with fail
    refine (HSV.out _ HBY.out).mono ?_
    rintro e w1 ⟨vv, pp, rfl, hq, hb1⟩
    obtain ⟨⟨av, cv, rfl⟩, ap, np, cp, rfl⟩ := hq.forms
    have HB1 : Hid (w1.heap[w.heap.size + 1]? = some (.cells #[.int .i64 0, .slice none 0 0, .slice none 0 0] 29)) := (hb1.block _ (by simp)).trans HBH.out
    have HBL : Hid (Below w.heap.size w w1) := HBY.out.trans (hb1.mono (by simp; omega))
    have hs1 : w.heap.size + 2 ≤ w1.heap.size := by simpa using hb1.size
    have HQ : Hid (∀ u0 u1 u2, AnsQ w.heap.size (((w1.setCell ⟨w.heap.size + 1, 0, none⟩ u0).setCell ⟨w.heap.size + 1, 1, none⟩ u1).setCell ⟨w.heap.size + 1, 2, none⟩ u2) (.slice av rx.length cv) (.slice ap np cp) ⟨rv, rx, rp⟩) := fun u0 u1 u2 => AnsQ.set3 (hq.mono (by simp; omega)) HB1.out u0 u1 u2
    have HBE : Hid (∀ u0 u1 u2, Below w.heap.size w (((w1.setCell ⟨w.heap.size + 1, 0, none⟩ u0).setCell ⟨w.heap.size + 1, 1, none⟩ u1).setCell ⟨w.heap.size + 1, 2, none⟩ u2)) := fun u0 u1 u2 => ((HBL.out.setCell (by simp only; omega) _).setCell (by simp only; omega) _).setCell (by simp only; omega) _
    have r0 := blk9 HB1.out 0 _ rfl
    have r1 := blk9 HB1.out 1 _ rfl
    have r2 := blk9 HB1.out 2 _ rfl
    have z0 := frz9 HB1.out 0
    have z1 := frz9 HB1.out 1
    have z2 := frz9 HB1.out 2
    have lr : w.heap.size + 1 < w1.heap.size := by omega
    clear hq hb1
    go_wp2
    refine bodyPost_ret (by simp [results, Tryz.results9, go_sem, *]; try rfl) rfl ?_
    exact ⟨_, _, rfl, HQ.out _ _ _, HBE.out _ _ _⟩
  · have hR := HR.out
    rw [if_neg hg] at hR
    have hgb : (m.goal == 0) = false := by simpa using hg
    have HR1 := (show Hid _ from hR)
    clear hR HR
    go_enter Tryz.func9, Tryz.ntmps9
    go_wp2_with fail
    refine (check_model m (.slice a1 m.vars.length c1) (.slice a2 m.cons.length c2) _ (HMA.out _ HBY.out)).mono ?_
    rintro e w1 ⟨rfl, hb1⟩
    rw [HER.out]
    have HA1 : Hid (w1.heap[w.heap.size]? = some (.cells #[.slice a1 m.vars.length c1, .slice a2 m.cons.length c2, .int .i64 m.goal, .int .i64 m.var] 25)) := (hb1.block _ (by simp; omega)).trans HAH.out
    have HB1 : Hid (w1.heap[w.heap.size + 1]? = some (.cells #[.int .i64 0, .slice none 0 0, .slice none 0 0] 29)) := (hb1.block _ (by simp)).trans HBH.out
    have HBL : Hid (Below w.heap.size w w1) := HBY.out.trans (hb1.mono (by simp; omega))
    have hs1 : w.heap.size + 2 ≤ w1.heap.size := by simpa using hb1.size
    clear hb1
    have g0 := blk9 HA1.out 0 _ rfl
    have g1 := blk9 HA1.out 1 _ rfl
    have g2 := blk9 HA1.out 2 _ rfl
    have g3 := blk9 HA1.out 3 _ rfl
    have r0 := blk9 HB1.out 0 _ rfl
    have r1 := blk9 HB1.out 1 _ rfl
    have r2 := blk9 HB1.out 2 _ rfl
    have z0 := frz9 HB1.out 0
    have z1 := frz9 HB1.out 1
    have z2 := frz9 HB1.out 2
    have lq : w.heap.size < w1.heap.size := by omega
    have lr : w.heap.size + 1 < w1.heap.size := by omega
    have HBE : Hid (∀ u0 u1 u2, Below w.heap.size w (((w1.setCell ⟨w.heap.size + 1, 0, none⟩ u0).setCell ⟨w.heap.size + 1, 1, none⟩ u1).setCell ⟨w.heap.size + 1, 2, none⟩ u2)) := fun u0 u1 u2 => ((HBL.out.setCell (by simp only; omega) _).setCell (by simp only; omega) _).setCell (by simp only; omega) _
    by_cases he : er = 0
    · subst he
      have hR := HR1.out
      rw [if_pos rfl] at hR
      by_cases hf : fuel < 0 ∨ 300 < fuel
      · rw [if_pos hf] at hR
        have HN : Hid ((noAns, (3 : Int)) = R) := hR
        clear hR HR1
        by_cases hf0 : fuel < 0
        · clear hf
          go_wp2
          refine bodyPost_ret (by simp [results, Tryz.results9, go_sem, *]; try rfl) rfl ?_
          rw [← HN.out]
          exact ⟨_, _, rfl, ansq_no _ _ _, HBE.out _ _ _⟩
        · have hf1 : 300 < fuel := by rcases hf with h | h; exact absurd h hf0; exact h
          clear hf
          go_wp2
          refine bodyPost_ret (by simp [results, Tryz.results9, go_sem, *]; try rfl) rfl ?_
          rw [← HN.out]
          exact ⟨_, _, rfl, ansq_no _ _ _, HBE.out _ _ _⟩
      · rw [if_neg hf] at hR
        have hf0 : ¬ fuel < 0 := fun h => hf (Or.inl h)
        have hf1 : ¬ 300 < fuel := fun h => hf (Or.inr h)
        obtain ⟨fn, rfl⟩ : ∃ fn : Nat, fuel = (fn : Int) := ⟨fuel.toNat, by omega⟩
        have HR2 : Hid ((climbA m (fn : Int), (0 : Int)) = R) := hR
        have hfn : fn ≤ 300 := by omega
        have HGG : Hid (m.goal = 1 ∨ m.goal = 2) := by
          rcases (goal_var m HER.out).2.2 with h | h
          · exact absurd h hg
          · exact h
        clear hR HR1 hf hg
        go_wp2_with fail
        refine (new_any m HER.out fn (.slice a1 m.vars.length c1) (.slice a2 m.cons.length c2) w1 (HMA.out _ HBL.out) (HT.out _ HBL.out)).mono ?_
        rintro e W ⟨s, rfl, r, mb, pv, hB, hD, hbW, hr, hs, hmb⟩
        have HSB : Hid (SkB W s r mb (.slice a1 m.vars.length c1) pv m.vars (ptsM m)) := hB
        have HSD := (show Hid _ from hD)
        have HBW : Hid (Below w1.heap.size w1 W) := hbW
        have hsW := hbW.size
        clear hB hD hbW r0 r1 r2 z0 z1 z2
        have q0 := (HBW.out.cell (p := ⟨w.heap.size, 0, none⟩) lq).trans g0
        have q1 := (HBW.out.cell (p := ⟨w.heap.size, 1, none⟩) lq).trans g1
        have q2 := (HBW.out.cell (p := ⟨w.heap.size, 2, none⟩) lq).trans g2
        have q3 := (HBW.out.cell (p := ⟨w.heap.size, 3, none⟩) lq).trans g3
        have lqW : w.heap.size < W.heap.size := by omega
        clear g0 g1 g2 g3
        go_wp2_with fail
        have hCn := heap_alloc_new W (.cells #[.pointer (some ⟨s, 0, none⟩), .slice none 0 0] 78)
        refine (climb_any m HER.out HGG.out fn hfn W s r mb W.heap.size (.slice a1 m.vars.length c1) (.slice a2 m.cons.length c2) pv HSB.out _ (HSD.out.below (below_alloc _ _)) hCn (Nat.le_refl _)).mono ?_
        rintro e w2 ⟨vv, pp, rfl, hq, hfr⟩
        obtain ⟨⟨av, cv, rfl⟩, ap, np, cp, rfl⟩ := hq.forms
        have HB2 : Hid (w2.heap[w.heap.size + 1]? = some (.cells #[.int .i64 0, .slice none 0 0, .slice none 0 0] 29)) := (hfr.block _ (by omega) (by unfold XS; omega)).trans ((HBW.out.block _ lr).trans HB1.out)
        have HBL2 : Hid (Below w.heap.size w w2) := by
          have h1 := HBL.out.trans (HBW.out.mono HBL.out.size)
          exact ⟨hfr.os.trans h1.os, hfr.tape.trans h1.tape, hfr.output.trans h1.output, Nat.le_trans h1.size hfr.size, fun k hk => (hfr.block k (Nat.lt_of_lt_of_le hk h1.size) (by unfold XS; have := HBL.out.size; omega)).trans (h1.block k hk)⟩
        have hs2 : w.heap.size + 1 < w2.heap.size := (Array.getElem?_eq_some_iff.1 HB2.out).1
        have HQ : Hid (∀ u0 u1 u2, AnsQ w.heap.size (((w2.setCell ⟨w.heap.size + 1, 0, none⟩ u0).setCell ⟨w.heap.size + 1, 1, none⟩ u1).setCell ⟨w.heap.size + 1, 2, none⟩ u2) (.slice av (climbA m (fn : Int)).values.length cv) (.slice ap np cp) (climbA m (fn : Int))) := fun u0 u1 u2 => AnsQ.set3 (hq.mono (by omega)) HB2.out u0 u1 u2
        have HBE2 : Hid (∀ u0 u1 u2, Below w.heap.size w (((w2.setCell ⟨w.heap.size + 1, 0, none⟩ u0).setCell ⟨w.heap.size + 1, 1, none⟩ u1).setCell ⟨w.heap.size + 1, 2, none⟩ u2)) := fun u0 u1 u2 => ((HBL2.out.setCell (by simp only; omega) _).setCell (by simp only; omega) _).setCell (by simp only; omega) _
        obtain ⟨⟨tv, tx, tp⟩, hcA⟩ : ∃ T, climbA m (fn : Int) = T := ⟨_, rfl⟩
        rw [hcA] at HQ HR2 ⊢
        have r0 := blk9 HB2.out 0 _ rfl
        have r1 := blk9 HB2.out 1 _ rfl
        have r2 := blk9 HB2.out 2 _ rfl
        have z0 := frz9 HB2.out 0
        have z1 := frz9 HB2.out 1
        have z2 := frz9 HB2.out 2
        clear hq hfr hcA q0 q1 q2 q3 hCn hs hr hmb
        go_wp2
        refine bodyPost_ret (by simp [results, Tryz.results9, go_sem, *]; try rfl) rfl ?_
        rw [← HR2.out]
        exact ⟨_, _, rfl, HQ.out _ _ _, HBE2.out _ _ _⟩
    · have hR := HR1.out
      rw [if_neg he] at hR
      have HN : Hid ((noAns, er) = R) := hR
      have he' : (er != 0) = true := by simpa using he
      clear hR HR1 he
      go_wp2
      refine bodyPost_ret (by simp [results, Tryz.results9, go_sem, *]; try rfl) rfl ?_
      rw [← HN.out]
      exact ⟨_, _, rfl, ansq_no _ _ _, HBE.out _ _ _⟩
end Go.Proofs.YtdjbejlbmaiocagGreatDoor
/-
  PLAIN: the constraint of two(), and its scope.
-/
namespace Go.Proofs.YtdjbejlbmaiocagGreatDoor

def twoC : MCon := ⟨1, [0, 1], [1, -1], -1, [], []⟩
theorem sort_01 : sortI [0, 1] = [0, 1] := by
  unfold sortI
  exact List.mergeSort_of_pairwise (by decide)
theorem two_scopeC : scopeC twoC = [0, 1] := by
  have h1 : scopeL twoC = [0, 1] := by rfl
  unfold scopeC
  rw [h1, sort_01]
  decide
end Go.Proofs.YtdjbejlbmaiocagGreatDoor
/-
  PLAIN: the points of two()'s constraint.
-/
namespace Go.Proofs.YtdjbejlbmaiocagGreatDoor

def twoP : List Nat := [129, 257, 258]
theorem two_points : pointsP twoM.vars twoC = twoP := by
  unfold pointsP
  rw [two_scopeC]
  decide +kernel
theorem two_con0 : twoM.cons.getD (0 : Int).toNat noCon = twoC := rfl
end Go.Proofs.YtdjbejlbmaiocagGreatDoor
/-
  PLAIN: what is best of two()'s model.
-/
namespace Go.Proofs.YtdjbejlbmaiocagGreatDoor

theorem ptsM_two9 : ptsM twoM = [twoP] := by
  show [pointsP twoM.vars twoC] = _
  rw [two_points]
theorem bst_s : bestA twoM 20 = (climbA twoM 20, 0) := by
  unfold bestA
  rw [if_neg (by decide), if_pos two_checks, if_neg (by decide)]
def R1 : Int × List Int × Sk := nextP twoM.vars [twoP] (startSk 20)
theorem bst_R1 : solveR twoM 20 = R1 := by unfold solveR R1; rw [ptsM_two9]
theorem bst_1 : R1 = (1, [0, 1], ⟨[], 20, [], [⟨0, 4, 0⟩, ⟨1, 4, 1⟩]⟩) := by kernel_rfl
def S2 : Sk := ⟨[heldP twoM.vars [⟨1, 1, 0⟩]], 20, [], [⟨0, 4, 0⟩, ⟨1, 4, 1⟩]⟩
theorem bst_S2 : moreSk twoM R1 = S2 := by rw [bst_1]; kernel_rfl
def R2 : Int × List Int × Sk := nextP twoM.vars [twoP] S2
theorem bst_2 : R2.1 = 2 := by kernel_rfl
theorem bst_3 : decide (0 < R2.2.2.proof.length) = true := by kernel_rfl
theorem bst_c : climbA twoM 20 = ⟨1, [0, 1], R2.2.2.proof⟩ := by
  unfold climbA
  have h1 : R1.1 = 1 := by rw [bst_1]
  have hs : (solveR twoM 20).1 = 1 → Sol twoM (solveR twoM 20).2.1 := fun h => (next_found twoM two_checks _ h).1
  rw [climb_step twoM two_checks (Or.inl rfl) _ _ hs, bst_R1, if_pos h1, bst_S2, ptsM_two9]
  have h2 : R2.1 = 1 → Sol twoM R2.2.1 := fun h => by rw [bst_2] at h; cases h
  show climbP twoM R2 R1.2.1 = _
  rw [climb_step twoM two_checks (Or.inl rfl) _ _ h2, if_neg (by rw [bst_2]; decide), if_neg (by rw [bst_2]; decide), bst_1]
  rfl
theorem bst_b : betterA twoM [0, 2] = ([⟨1, 1, 1⟩], 0) := by
  unfold betterA
  rw [if_pos two_checks]
  kernel_rfl
theorem bst_all : ∃ P, bestA twoM 20 = (⟨1, [0, 1], P⟩, 0) ∧ 0 < P.length := ⟨R2.2.2.proof, by rw [bst_s, bst_c], of_decide_eq_true bst_3⟩
end Go.Proofs.YtdjbejlbmaiocagGreatDoor
/-
  WALK: the reference's SameInts.
-/
namespace Go.Proofs.YtdjbejlbmaiocagGreatDoor
open Go.RowKit

theorem take_same {α : Type} (a b : List α) (m : Nat) (x : α) (h : a.take m = b.take m) (ha : a[m]? = some x) (hb : b[m]? = some x) : a.take (m + 1) = b.take (m + 1) := by
  rw [List.take_add_one, List.take_add_one, h, ha, hb]
theorem same_end {α : Type} (a b : List α) (m : Nat) (h : a.take m = b.take m) (ha : ¬ m < a.length) (hl : a.length = b.length) : a = b := by
  rwa [List.take_of_length_le (by omega), List.take_of_length_le (by omega)] at h
theorem not_same {α : Type} (a b : List α) (m : Nat) (x y : α) (ha : a[m]? = some x) (hb : b[m]? = some y) (h : x ≠ y) : a ≠ b := by
  intro e; subst e; rw [ha] at hb; cases hb; exact h rfl

set_option maxHeartbeats 800000 in
set_option maxRecDepth 100000 in
theorem sameints_any (l k : List Int) (v u : Value) (w : World) (hv : IArg w v l) (hu : IArg w u k) :
    Calls Tryz.prog 37 #[v, u] w fun e w' => e = .returned (.bool (decide (l = k))) ∧ ∃ n, w' = w.drewN n := by
  obtain ⟨a, c, rfl, hm, hr⟩ := hv
  obtain ⟨a', c', rfl, hm', hr'⟩ := hu
  have HV : Hid (∀ (i : Nat) (z : Int), l[i]? = some z → ∃ b off, a = some ⟨b, off, none⟩ ∧ b < w.heap.size ∧ w.cell? ⟨b, off + i, none⟩ = some (.int .i64 z)) := hr
  have HV' : Hid (∀ (i : Nat) (z : Int), k[i]? = some z → ∃ b off, a' = some ⟨b, off, none⟩ ∧ b < w.heap.size ∧ w.cell? ⟨b, off + i, none⟩ = some (.int .i64 z)) := hr'
  obtain ⟨R, hR⟩ : ∃ R, decide (l = k) = R := ⟨_, rfl⟩
  rw [hR]
  have HR : Hid (decide (l = k) = R) := hR
  unfold maxLen at hm hm'
  obtain ⟨hm1, hm⟩ := hm
  obtain ⟨hm1', hm'⟩ := hm'
  clear hr hr' hR
  by_cases hl : l.length = k.length
  · have HL : Hid (l.length = k.length) := hl
    have g0 : ((l.length : Int) != (k.length : Int)) = false := by simp [hl]
    clear hl
    go_enter Tryz.func37, Tryz.ntmps37
    go_wp2_with fail
    go_loopw [5] (fun i wr => ∃ m : Nat, m ≤ l.length ∧ i = .int .i64 m ∧ Hid (l.take m = k.take m) ∧ ∃ n, wr = w.drewN n) (fun i _ => l.length - (intOf i).toNat)
    case atStart => exact ⟨0, by omega, rfl, rfl, 0, rfl⟩
    case round =>
      obtain ⟨m, hml, rfl, hall, nq, rfl⟩ := hrel
      by_cases hlt : m < l.length
      · have hlt' : m < k.length := by rw [← HL.out]; exact hlt
        obtain ⟨x, hx⟩ : ∃ x, l[m]? = some x := ⟨l[m], by simp [hlt]⟩
        obtain ⟨y, hy⟩ : ∃ y, k[m]? = some y := ⟨k[m], by simp [hlt']⟩
        obtain ⟨b, off, ha, hb, hc⟩ := HV.out m x hx
        obtain ⟨b', off', ha', hb', hd⟩ := HV'.out m y hy
        have HX : Hid (l[m]? = some x) := hx
        have HY : Hid (k[m]? = some y) := hy
        subst ha; subst ha'
        clear hx hy
        by_cases hq : x = y
        · subst hq
          have HN : Hid (l.take (m + 1) = k.take (m + 1)) := take_same l k m x hall.out HX.out HY.out
          go_wp2
          go_quiet (fail)
          go_wp2
          go_roundw
          case rel => exact ⟨m + 1, by omega, by go_num, HN, _, rfl⟩
          case measure => simp [intOf]; omega
        · have HN : Hid (R = false) := by rw [← HR.out]; exact decide_eq_false (not_same l k m x y HX.out HY.out hq)
          have hq2 : (x != y) = true := by simpa using hq
          clear hq
          go_wp2
          go_quiet (fail)
          go_wp2
          go_ret
          exact ⟨ret_bool HN.out.symm, _, drewN_drewN _ _ _⟩
      · have HN : Hid (R = true) := by rw [← HR.out]; exact decide_eq_true (same_end l k m hall.out hlt HL.out)
        go_wp2
        go_ret
        exact ⟨ret_bool HN.out.symm, _, rfl⟩
  · have HN : Hid (R = false) := by rw [← HR.out]; exact decide_eq_false (fun h => hl (by rw [h]))
    have g0 : ((l.length : Int) != (k.length : Int)) = true := by simp; omega
    clear hl
    go_enter Tryz.func37, Tryz.ntmps37
    go_wp2
    go_ret
    exact ⟨ret_bool HN.out.symm, 0, rfl⟩

end Go.Proofs.YtdjbejlbmaiocagGreatDoor
/-
  WALK: the reference's SameClause, where both are the same.
-/
namespace Go.Proofs.YtdjbejlbmaiocagGreatDoor
open Go.RowKit

theorem LArg.nth {w : World} {a : Option Addr} {n c : Nat} {l : List MLit} (h : LArg w (.slice a n c) l) (i : Nat) (t : MLit) (hr : l[i]? = some t) : ∃ b off, a = some ⟨b, off, none⟩ ∧ b < w.heap.size ∧
    w.cell? ⟨b, off + i * 3, none⟩ = some (.int .i64 t.var) ∧ w.cell? ⟨b, off + i * 3 + 1, none⟩ = some (.int .i64 t.op) ∧ w.cell? ⟨b, off + i * 3 + 2, none⟩ = some (.int .i64 t.n) := by
  obtain ⟨a', c', hv, _, hh⟩ := h
  cases hv
  exact hh i t hr
set_option maxHeartbeats 1600000 in
set_option maxRecDepth 100000 in
theorem sameclause_eq (s : List MLit) (v u : Value) (w : World) (hv : LArg w v s) (hu : LArg w u s) :
    Calls Tryz.prog 48 #[v, u] w fun e w' => e = .returned (.bool true) ∧ ∃ n, w' = w.drewN n := by
  have HA : Hid (LArg w v s) := hv
  have HA' : Hid (LArg w u s) := hu
  obtain ⟨a, c, rfl, hm, _⟩ := hv
  obtain ⟨a', c', rfl, hm', _⟩ := hu
  unfold maxLen at hm hm'
  obtain ⟨hm1, hm⟩ := hm
  obtain ⟨hm1', hm'⟩ := hm'
  have g0 : ((s.length : Int) != (s.length : Int)) = false := by simp
  go_enter Tryz.func48, Tryz.ntmps48
  go_wp2_with fail
  go_loopw [5] (fun i wr => ∃ m : Nat, m ≤ s.length ∧ i = .int .i64 m ∧ ∃ n, wr = w.drewN n) (fun i _ => s.length - (intOf i).toNat)
  case atStart => exact ⟨0, by omega, rfl, 0, rfl⟩
  case round =>
    obtain ⟨m, hml, rfl, nq, rfl⟩ := hrel
    by_cases hlt : m < s.length
    · obtain ⟨x, hx⟩ : ∃ x, s[m]? = some x := ⟨s[m], by simp [hlt]⟩
      obtain ⟨b, off, rfl, hb, h0, h1, h2⟩ := LArg.nth HA.out m x hx
      obtain ⟨b', off', rfl, hb', h0', h1', h2'⟩ := LArg.nth HA'.out m x hx
      clear hx
      go_wp2
      go_quiet (fail)
      go_wp2
      go_roundw
      case rel => exact ⟨m + 1, by omega, by go_num, _, rfl⟩
      case measure => simp [intOf]; omega
    · go_wp2
      go_ret
      exact ⟨rfl, _, rfl⟩
end Go.Proofs.YtdjbejlbmaiocagGreatDoor
/-
  WALK: what must be in any case, of the best (bestBegun of the laws).
-/
namespace Go.Proofs.YtdjbejlbmaiocagGreatDoor
open Go.RowKit

theorem lit_made9 (w : World) (v o n : Int) (B : Nat) (hB : B = w.heap.size) : LArg (w.alloc (.cells #[.int .i64 v, .int .i64 o, .int .i64 n] 88)) (.slice (some ⟨B, 0, none⟩) 1 1) [⟨v, o, n⟩] := by
  subst hB
  refine ⟨_, 1, rfl, ⟨by simp, by unfold maxLen; omega⟩, fun i t ht => ?_⟩
  match i, ht with
  | 0, ht =>
    cases ht
    exact ⟨_, 0, rfl, by simp, World.cell?_alloc_at _ _ _ 0 (by simp), World.cell?_alloc_at _ _ _ 1 (by simp), World.cell?_alloc_at _ _ _ 2 (by simp)⟩
theorem ints_made9 (w : World) (a b : Int) (B : Nat) (hB : B = w.heap.size) : IArg (w.alloc (.cells #[.int .i64 a, .int .i64 b] 3)) (.slice (some ⟨B, 0, none⟩) 2 2) [a, b] := by
  subst hB
  refine ⟨_, 2, rfl, ⟨by simp, by unfold maxLen; omega⟩, fun i z hz => ?_⟩
  match i, hz with
  | 0, hz =>
    cases hz
    exact ⟨_, 0, rfl, by simp, World.cell?_alloc_at _ _ _ 0 (by simp)⟩
  | 1, hz =>
    cases hz
    exact ⟨_, 0, rfl, by simp, World.cell?_alloc_at _ _ _ 1 (by simp)⟩
theorem drawn_b9 {w w' : World} (h : ∃ n, w' = w.drewN n) : Below w.heap.size w w' := by
  obtain ⟨n, rfl⟩ := h
  exact ⟨rfl, rfl, rfl, Nat.le_refl _, fun _ _ => rfl⟩

set_option maxHeartbeats 3200000 in
set_option maxRecDepth 100000 in
theorem begun_best (w : World) (hT : TabT w) :
    Calls Tryz.prog 11 #[] w fun e w' => e = .returned (.bool true) ∧ Below w.heap.size w w' := by
  have HT : Hid (∀ w', Below w.heap.size w w' → TabT w') := fun w' h => hT.below h
  obtain ⟨P, hP, hPl⟩ := bst_all
  have HP : Hid (bestA twoM 20 = (⟨1, [0, 1], P⟩, 0)) := hP
  clear hT hP
  go_enter Tryz.func11, Tryz.ntmps11
  go_wp2_with fail
  refine (two_any _).mono ?_
  rintro e w1 ⟨vs, cs, rfl, hm, hb1⟩
  have HM : Hid (MArg w1 vs cs twoM) := hm
  have HA1 : Hid (Below w.heap.size w w1) := hb1
  clear hm hb1
  go_wp2_with fail
  refine (bbetter_any twoM [0, 2] vs cs _ _ (MArg.below (below_alloc _ _) HM.out) (ints_made9 w1 0 2 _ rfl)).mono ?_
  rintro e w2 ⟨x, rfl, hx, hb2⟩
  rw [bst_b] at hx ⊢
  dsimp only at hx ⊢
  have HX : Hid (∀ Y, Below w2.heap.size w2 Y → LArg Y x [⟨1, 1, 1⟩]) := fun Y hY => LArg.below hY hx.arg
  have HA2 : Hid (Below w.heap.size w w2) := (HA1.out.alloc HA1.out.size _).trans (hb2.mono (by have := HA1.out.size; simp; omega))
  obtain ⟨ax, cx, hxe⟩ := own_form (show w2.ownsRow _ _ _ _ _ _ from hx)
  subst hxe
  clear hx hb2 HM
  go_wp2_with fail
  refine (two_any _).mono ?_
  rintro e w3 ⟨vs, cs, rfl, hm, hb3⟩
  have HM : Hid (MArg w3 vs cs twoM) := hm
  have HX3 : Hid (Below w2.heap.size w2 w3) := hb3
  have HA3 : Hid (Below w.heap.size w w3) := HA2.out.trans (hb3.mono HA2.out.size)
  clear hm hb3
  go_wp2_with fail
  refine (best_any twoM 20 vs cs _ HM.out (HT.out _ HA3.out)).mono ?_
  rintro e w4 ⟨vv, pp, rfl, hq, hb4⟩
  rw [HP.out] at hq ⊢
  dsimp only at hq ⊢
  obtain ⟨L, hst, hLe⟩ := hq.prf
  simp only at hLe
  have hLl : 0 < L.length := by have := congrArg List.length hLe; rw [List.length_map] at this; omega
  obtain ⟨av, cv, rfl⟩ := own_form hq.val
  obtain ⟨ap, cp, rfl⟩ := own_form hst.1
  have HV : Hid (∀ Y, Below w4.heap.size w4 Y → IArg Y (.slice av [0, 1].length cv) [0, 1]) := fun Y hY => IArg.below hY (own_ilist hq.val)
  have HX4 : Hid (Below w2.heap.size w2 w4) := HX3.out.trans (hb4.mono HX3.out.size)
  have HA4 : Hid (Below w.heap.size w w4) := HA3.out.trans (hb4.mono HA3.out.size)
  have hLl2 : (0 : Int) < (L.length : Int) := by omega
  have hLl3 : ¬ L = [] := fun h => by rw [h] at hLl; cases hLl
  clear hq hb4 hst hLe HM HP hPl
  go_wp2_with fail
  have hb5 : Below w4.heap.size w4 (w4.alloc (.cells #[.int .i64 1, .slice av 2 cv, .slice ap L.length cp] 29)) := below_alloc _ _
  have hbl5 := heap_alloc_new w4 (.cells #[.int .i64 1, .slice av 2 cv, .slice ap L.length cp] 29)
  obtain ⟨W5, hW5⟩ : ∃ W5, w4.alloc (.cells #[.int .i64 1, .slice av 2 cv, .slice ap L.length cp] 29) = W5 := ⟨_, rfl⟩
  have hsz5 : W5.heap.size = w4.heap.size + 1 := by rw [← hW5]; simp
  rw [hW5] at hb5 hbl5 ⊢
  refine (sameclause_eq [⟨1, 1, 1⟩] _ _ _ (HX.out _ ((HX4.out.trans (hb5.mono HX4.out.size)).alloc (by have := HX4.out.size; omega) _)) (lit_made9 W5 1 1 1 _ hsz5.symm)).mono ?_
  rintro e w6 ⟨rfl, hd6⟩
  have hB6 : Below W5.heap.size W5 w6 := (below_alloc _ _).trans ((drawn_b9 hd6).mono (by simp))
  have HBL6 : Hid (w6.heap[w4.heap.size]? = some (.cells #[.int .i64 1, .slice av 2 cv, .slice ap L.length cp] 29)) := (hB6.block _ (by omega)).trans hbl5
  have HB6 : Hid (Below w4.heap.size w4 w6) := hb5.trans (hB6.mono (by omega))
  have k0 := blk9 HBL6.out 0 _ rfl
  have k1 := blk9 HBL6.out 1 _ rfl
  have k2 := blk9 HBL6.out 2 _ rfl
  have kl := (Array.getElem?_eq_some_iff.1 HBL6.out).1
  clear hd6 hB6 hsz5 hW5 hb5 hbl5
  go_wp2_with fail
  refine (sameints_any [0, 1] [0, 1] _ _ _ (HV.out _ (HB6.out.alloc HB6.out.size _)) (ints_made9 w6 0 1 _ rfl)).mono ?_
  rintro e w7 ⟨rfl, hd7⟩
  have hB7 : Below w6.heap.size w6 w7 := (below_alloc _ _).trans ((drawn_b9 hd7).mono (by simp))
  have j2 := (hB7.cell (p := ⟨w4.heap.size, 2, none⟩) kl).trans k2
  have jl : w4.heap.size < w7.heap.size := Nat.lt_of_lt_of_le kl hB7.size
  have HB7 : Hid (Below w.heap.size w w7) := HA4.out.trans ((HB6.out.trans (hB7.mono HB6.out.size)).mono HA4.out.size)
  rw [show (decide (([0, 1] : List Int) = [0, 1])) = true from rfl]
  clear hd7 hB7 k0 k1 k2
  go_wp2
  go_ret
  exact ⟨rfl, HB7.out⟩
end Go.Proofs.YtdjbejlbmaiocagGreatDoor
/-
  WALK: package model: Holds.
-/
namespace Go.Proofs.YtdjbejlbmaiocagGreatDoor
open Go.RowKit

set_option maxHeartbeats 1600000 in
set_option maxRecDepth 100000 in
theorem mholds_any (m : Mod) (con : Int) (vals : List Int) (vs cs v : Value) (w : World) (hm : MArg w vs cs m) (hv : IArg w v vals) :
    Calls Tryz.prog 53 #[modV vs cs m, .int .i64 con, v] w fun e w' => e = .returned (.tuple #[.bool (holdsA m con vals).1, .int .i64 (holdsA m con vals).2]) ∧ Below w.heap.size w w' := by
  have HMA : Hid (∀ w' : World, Below w.heap.size w w' → MArg w' vs cs m) := fun w' h => MArg.below h hm
  have HVA : Hid (∀ w' : World, Below w.heap.size w w' → IArg w' v vals) := fun w' h => IArg.below h hv
  obtain ⟨⟨a1, c1, rfl, _, _⟩, ⟨a2, c2, rfl, hl2, hr2⟩⟩ := hm
  obtain ⟨a3, c3, rfl, hl3, hr3⟩ := hv
  have HC : Hid (∀ (i : Nat) (t : MCon), m.cons[i]? = some t → ∃ b off vv vc vr vl, a2 = some ⟨b, off, none⟩ ∧ b < w.heap.size ∧
    w.cell? ⟨b, off + i * 6, none⟩ = some (.int .i64 t.kind) ∧ w.cell? ⟨b, off + i * 6 + 1, none⟩ = some vv ∧ w.cell? ⟨b, off + i * 6 + 2, none⟩ = some vc ∧
    w.cell? ⟨b, off + i * 6 + 3, none⟩ = some (.int .i64 t.n) ∧ w.cell? ⟨b, off + i * 6 + 4, none⟩ = some vr ∧ w.cell? ⟨b, off + i * 6 + 5, none⟩ = some vl ∧ KArg w vv vc vr vl t) := hr2
  have HV : Hid (∀ (i : Nat) (z : Int), vals[i]? = some z → ∃ b off, a3 = some ⟨b, off, none⟩ ∧ b < w.heap.size ∧ w.cell? ⟨b, off + i, none⟩ = some (.int .i64 z)) := hr3
  unfold maxLen at hl2 hl3
  obtain ⟨hl21, hl2⟩ := hl2
  obtain ⟨hl31, hl3⟩ := hl3
  obtain ⟨R, hR⟩ : ∃ R, holdsA m con vals = R := ⟨_, rfl⟩
  rw [hR]
  obtain ⟨er, her⟩ : ∃ er, conCheck m con = er := ⟨_, rfl⟩
  have HER : Hid (conCheck m con = er) := her
  have HE : Hid (R = if er = 0 then
    (if vals.length = m.vars.length then (if vals.all (fun x => inB x 50) then (holdsC (m.cons.getD con.toNat noCon) vals, 0) else (false, 3)) else (false, 1))
    else (false, er)) := by rw [← hR, ← her]; rfl
  clear hR her hr2 hr3
  unfold modV
  go_enter Tryz.func53, Tryz.ntmps53
  go_wp2_with fail
  refine (check_con m con (.slice a1 m.vars.length c1) (.slice a2 m.cons.length c2) _ ?_).mono ?_
  · exact HMA.out _ (below_alloc _ _)
  rintro e w1 ⟨rfl, hb1⟩
  rw [HER.out]
  have d0 : w1.cell? ⟨w.heap.size, 0, none⟩ = some (.slice a1 m.vars.length c1) := (hb1.cell (by simp)).trans (by simp)
  have d1 : w1.cell? ⟨w.heap.size, 1, none⟩ = some (.slice a2 m.cons.length c2) := (hb1.cell (by simp)).trans (by simp)
  have HB1 : Hid (Below w.heap.size w w1) := (below_alloc _ _).trans (hb1.mono (by simp))
  clear hb1
  by_cases he : er = 0
  · subst he
    obtain ⟨o1, o2, o3⟩ := conCheck_ok m con HER.out
    by_cases hl : vals.length = m.vars.length
    · have g0 : ((vals.length : Int) != (m.vars.length : Int)) = false := by simp [hl]
      have HL : Hid (vals.length = m.vars.length) := hl
      have HE2 : Hid (R = if vals.all (fun x => inB x 50) then (holdsC (m.cons.getD con.toNat noCon) vals, 0) else (false, 3)) := by rw [HE.out, if_pos rfl, if_pos hl]; rfl
      have HO1 : Hid (checkM m = 0) := o1
      clear hl o1
      go_wp2_with fail
      go_loop [25] (fun i => ∃ k : Nat, k ≤ vals.length ∧ i = .int .i64 k ∧ Hid ((vals.take k).all (fun x => inB x 50) = true)) (fun i => vals.length - (intOf i).toNat)
      case atStart => exact ⟨0, by omega, rfl, rfl⟩
      case round =>
        obtain ⟨k, hk, rfl, hall⟩ := hrel
        by_cases hlt : k < vals.length
        · obtain ⟨x, hx⟩ : ∃ x, vals[k]? = some x := ⟨vals[k], by simp [hlt]⟩
          obtain ⟨b, off, rfl, hb, e0⟩ := HV.out k x hx
          have e1 := (HB1.out.cell (p := ⟨b, off + k, none⟩) hb).trans e0
          have HX : Hid (vals[k]? = some x) := hx
          clear hx e0 hb
          cases hq : inB x 50
          · have HN : Hid (R = (false, 3)) := by rw [HE2.out, all_hit (fun x => inB x 50) vals k x HX.out hq]; rfl
            go_wp2_with fail
            refine (within_any _ 50 (by omega) (by omega) _).mono ?_
            rintro e w1 ⟨rfl, rfl⟩
            rw [hq]
            clear hq
            go_wp2
            go_ret2
            exact ⟨by rw [HN.out]; rfl, HB1.out⟩
          · have HN : Hid ((vals.take (k + 1)).all (fun x => inB x 50) = true) := all_next (fun x => inB x 50) vals k x HX.out hall.out hq
            go_wp2_with fail
            refine (within_any _ 50 (by omega) (by omega) _).mono ?_
            rintro e w1 ⟨rfl, rfl⟩
            rw [hq]
            clear hq
            go_wp2
            go_round
            case rel => exact ⟨k + 1, by omega, by go_num, HN⟩
            case measure => simp [intOf]; omega
        · have HA : Hid (vals.all (fun x => inB x 50) = true) := all_end _ vals k hlt hall.out
          obtain ⟨j, rfl⟩ : ∃ j : Nat, con = (j : Int) := ⟨con.toNat, by omega⟩
          have hjl : j < m.cons.length := by omega
          obtain ⟨c, hc⟩ : ∃ c, m.cons[j]? = some c := ⟨m.cons[j], by simp [hjl]⟩
          have HN : Hid (R = (holdsC c vals, 0)) := by
            rw [HE2.out, HA.out, if_pos rfl, Int.toNat_natCast, List.getD_eq_getElem?_getD, hc]; rfl
          obtain ⟨b, off, vv, vc, vr, vl, ha, hb, f0, f1, f2, f3, f4, f5, hka⟩ := HC.out j c hc
          subst ha
          have e0 := (HB1.out.cell (p := ⟨b, off + j * 6, none⟩) hb).trans f0
          have e1 := (HB1.out.cell (p := ⟨b, off + j * 6 + 1, none⟩) hb).trans f1
          have e2 := (HB1.out.cell (p := ⟨b, off + j * 6 + 2, none⟩) hb).trans f2
          have e3 := (HB1.out.cell (p := ⟨b, off + j * 6 + 3, none⟩) hb).trans f3
          have e4 := (HB1.out.cell (p := ⟨b, off + j * 6 + 4, none⟩) hb).trans f4
          have e5 := (HB1.out.cell (p := ⟨b, off + j * 6 + 5, none⟩) hb).trans f5
          have HK : Hid (KArg w1 vv vc vr vl c) := KArg.below HB1.out hka
          have HCE : Hid (conE vals.length c = 0) := by rw [HL.out]; exact con_ok m HO1.out j c hc
          have HBD : Hid (∀ x ∈ vals, -50 ≤ x ∧ x ≤ 50) := fun x hx => by
            have := List.all_eq_true.1 HA.out x hx
            simpa [inB] using this
          obtain ⟨⟨q1, r1, rfl, _, _⟩, ⟨q2, r2, rfl, _, _⟩, ⟨q3, r3, rfl, _, _⟩, ⟨q4, r4, rfl, _, _⟩⟩ := hka
          clear hc f0 f1 f2 f3 f4 f5 hb
          go_wp2_with fail
          refine (holds_any c vals _ _ _ _ _ _ HK.out (HVA.out _ HB1.out) HCE.out HBD.out).mono ?_
          rintro e w2 ⟨rfl, hb2⟩
          have hb3 : Below w.heap.size w w2 := HB1.out.trans (hb2.mono HB1.out.size)
          clear hb2
          go_wp2
          go_ret2
          exact ⟨by rw [HN.out]; rfl, hb3⟩
    · have g0 : ((vals.length : Int) != (m.vars.length : Int)) = true := by simp; omega
      have HN : Hid (R = (false, 1)) := by rw [HE.out, if_pos rfl, if_neg hl]; rfl
      clear hl
      go_wp2
      go_ret2
      exact ⟨by rw [HN.out]; rfl, HB1.out⟩
  · have HN : Hid (R = (false, er)) := by rw [HE.out, if_neg he]; rfl
    have he2 : (er != 0) = true := by simpa using he
    clear he
    go_wp2
    go_ret2
    exact ⟨by rw [HN.out]; rfl, HB1.out⟩
end Go.Proofs.YtdjbejlbmaiocagGreatDoor
/-
  WALK: package model: All.
-/
namespace Go.Proofs.YtdjbejlbmaiocagGreatDoor
open Go.RowKit

set_option maxHeartbeats 1600000 in
set_option maxRecDepth 100000 in
theorem mall_any (m : Mod) (vals : List Int) (vs cs v : Value) (w : World) (hm : MArg w vs cs m) (hv : IArg w v vals) :
    Calls Tryz.prog 19 #[modV vs cs m, v] w fun e w' => e = .returned (.tuple #[.bool (allA m vals).1, .int .i64 (allA m vals).2]) ∧ Below w.heap.size w w' := by
  have HMA : Hid (∀ w' : World, Below w.heap.size w w' → MArg w' vs cs m) := fun w' h => MArg.below h hm
  have HVA : Hid (∀ w' : World, Below w.heap.size w w' → IArg w' v vals) := fun w' h => IArg.below h hv
  obtain ⟨⟨a1, c1, rfl, hl1, hr1⟩, ⟨a2, c2, rfl, hl2, hr2⟩⟩ := hm
  obtain ⟨a3, c3, rfl, hl3, hr3⟩ := hv
  have HV1 : Hid (∀ (i : Nat) (t : MVar), m.vars[i]? = some t → t.name.size ≤ maxLen ∧ ∃ b off, a1 = some ⟨b, off, none⟩ ∧ b < w.heap.size ∧
    w.cell? ⟨b, off + i * 3, none⟩ = some (.string t.name) ∧ w.cell? ⟨b, off + i * 3 + 1, none⟩ = some (.int .i64 t.lo) ∧ w.cell? ⟨b, off + i * 3 + 2, none⟩ = some (.int .i64 t.hi)) := hr1
  have HC : Hid (∀ (i : Nat) (t : MCon), m.cons[i]? = some t → ∃ b off vv vc vr vl, a2 = some ⟨b, off, none⟩ ∧ b < w.heap.size ∧
    w.cell? ⟨b, off + i * 6, none⟩ = some (.int .i64 t.kind) ∧ w.cell? ⟨b, off + i * 6 + 1, none⟩ = some vv ∧ w.cell? ⟨b, off + i * 6 + 2, none⟩ = some vc ∧
    w.cell? ⟨b, off + i * 6 + 3, none⟩ = some (.int .i64 t.n) ∧ w.cell? ⟨b, off + i * 6 + 4, none⟩ = some vr ∧ w.cell? ⟨b, off + i * 6 + 5, none⟩ = some vl ∧ KArg w vv vc vr vl t) := hr2
  have HV : Hid (∀ (i : Nat) (z : Int), vals[i]? = some z → ∃ b off, a3 = some ⟨b, off, none⟩ ∧ b < w.heap.size ∧ w.cell? ⟨b, off + i, none⟩ = some (.int .i64 z)) := hr3
  unfold maxLen at hl1 hl2 hl3
  obtain ⟨hl11, hl1⟩ := hl1
  obtain ⟨hl21, hl2⟩ := hl2
  obtain ⟨hl31, hl3⟩ := hl3
  obtain ⟨R, hR⟩ : ∃ R, allA m vals = R := ⟨_, rfl⟩
  rw [hR]
  obtain ⟨er, her⟩ : ∃ er, checkM m = er := ⟨_, rfl⟩
  have HER : Hid (checkM m = er) := her
  have HE : Hid (R = if er = 0 then
    (if vals.length = m.vars.length then ((m.vars.zip vals).all (fun p => insideV p.1 p.2) && m.cons.all (fun c => holdsC c vals), 0) else (false, 1))
    else (false, er)) := by rw [← hR, ← her]; rfl
  clear hR her hr1 hr2 hr3
  unfold modV
  go_enter Tryz.func19, Tryz.ntmps19
  go_wp2_with fail
  refine (check_model m (.slice a1 m.vars.length c1) (.slice a2 m.cons.length c2) _ ?_).mono ?_
  · exact HMA.out _ (below_alloc _ _)
  rintro e w1 ⟨rfl, hb1⟩
  rw [HER.out]
  have d0 : w1.cell? ⟨w.heap.size, 0, none⟩ = some (.slice a1 m.vars.length c1) := (hb1.cell (by simp)).trans (by simp)
  have d1 : w1.cell? ⟨w.heap.size, 1, none⟩ = some (.slice a2 m.cons.length c2) := (hb1.cell (by simp)).trans (by simp)
  have HD1 : Hid (w1.cell? ⟨w.heap.size, 1, none⟩ = some (.slice a2 m.cons.length c2)) := d1
  have hs1 : w.heap.size + 1 ≤ w1.heap.size := by simpa using hb1.size
  have HB1 : Hid (Below w.heap.size w w1) := (below_alloc _ _).trans (hb1.mono (by simp))
  clear hb1
  by_cases he : er = 0
  · subst he
    by_cases hl : vals.length = m.vars.length
    · have g0 : ((vals.length : Int) != (m.vars.length : Int)) = false := by simp [hl]
      have HL : Hid (vals.length = m.vars.length) := hl
      have HE2 : Hid (R = ((m.vars.zip vals).all (fun p => insideV p.1 p.2) && m.cons.all (fun c => holdsC c vals), 0)) := by rw [HE.out, if_pos rfl, if_pos hl]; rfl
      clear hl
      go_wp2_with fail
      go_loopw [25] (fun i wr => ∃ k : Nat, k ≤ m.vars.length ∧ i = .int .i64 k ∧ Hid (((m.vars.zip vals).take k).all (fun p => insideV p.1 p.2) = true) ∧ Below w1.heap.size w1 wr) (fun i _ => m.vars.length - (intOf i).toNat)
      case atStart => exact ⟨0, by omega, rfl, rfl, Below.refl _ _⟩
      case round =>
        obtain ⟨k, hk, rfl, hall, hbw⟩ := hrel
        have HBW : Hid (Below w.heap.size w wr) := HB1.out.trans (hbw.mono (by omega))
        have HBW1 : Hid (Below w1.heap.size w1 wr) := hbw
        by_cases hlt : k < m.vars.length
        · have hlt' : k < vals.length := by rw [HL.out]; exact hlt
          obtain ⟨x, hx⟩ : ∃ x, vals[k]? = some x := ⟨vals[k], by simp [hlt']⟩
          obtain ⟨t, ht⟩ : ∃ t, m.vars[k]? = some t := ⟨m.vars[k], by simp [hlt]⟩
          have HG : Hid ((m.vars.zip vals)[k]? = some (t, x)) := by show _ = _; rw [List.getElem?_zip_eq_some]; exact ⟨ht, hx⟩
          obtain ⟨b, off, rfl, hb, e0⟩ := HV.out k x hx
          obtain ⟨_, b', off', rfl, hb', f0, f1, f2⟩ := HV1.out k t ht
          have e1 := (HBW.out.cell (p := ⟨b, off + k, none⟩) hb).trans e0
          have k0 := (HBW.out.cell (p := ⟨b', off' + k * 3, none⟩) hb').trans f0
          have k1 := (HBW.out.cell (p := ⟨b', off' + k * 3 + 1, none⟩) hb').trans f1
          have k2 := (HBW.out.cell (p := ⟨b', off' + k * 3 + 2, none⟩) hb').trans f2
          have hbr : b < wr.heap.size := Nat.lt_of_lt_of_le hb HBW.out.size
          clear hx ht e0 f0 f1 f2 hb hb' hbw
          by_cases q1 : x < t.lo
          · have HN : Hid (R = (false, 0)) := by
              have := all_hit (fun p : MVar × Int => insideV p.1 p.2) (m.vars.zip vals) k (t, x) HG.out (by simp [insideV, q1])
              rw [HE2.out, this]; rfl
            have q2 : decide (x < t.lo) = true := decide_eq_true q1
            go_wp2
            go_quiet (fail)
            go_wp2
            go_ret2
            exact ⟨by rw [HN.out]; rfl, below_drewN (HBW.out.trans ((below_alloc _ _).mono HBW.out.size)) _⟩
          · have q2 : decide (x < t.lo) = false := decide_eq_false q1
            by_cases q3 : t.hi < x
            · have HN : Hid (R = (false, 0)) := by
                have := all_hit (fun p : MVar × Int => insideV p.1 p.2) (m.vars.zip vals) k (t, x) HG.out (by simp [insideV, q3])
                rw [HE2.out, this]; rfl
              clear q1
              go_wp2
              go_quiet (fail)
              go_wp2
              go_ret2
              exact ⟨by rw [HN.out]; rfl, below_drewN (HBW.out.trans ((below_alloc _ _).mono HBW.out.size)) _⟩
            · have HN : Hid (((m.vars.zip vals).take (k + 1)).all (fun p => insideV p.1 p.2) = true) := all_next (fun p : MVar × Int => insideV p.1 p.2) (m.vars.zip vals) k (t, x) HG.out hall.out (by simp [insideV]; omega)
              have q4 : decide (t.hi < x) = false := decide_eq_false q3
              clear q1 q3
              go_wp2
              go_quiet (fail)
              go_wp2
              go_roundw
              case rel => exact ⟨k + 1, by omega, by go_num, HN, below_drewN (HBW1.out.alloc HBW1.out.size _) _⟩
              case measure => simp [intOf]; omega
        · have HA : Hid ((m.vars.zip vals).all (fun p => insideV p.1 p.2) = true) := all_end _ _ k (by rw [List.length_zip, HL.out]; omega) hall.out
          have HE3 : Hid (R = (m.cons.all (fun c => holdsC c vals), 0)) := by rw [HE2.out, HA.out, Bool.true_and]; rfl
          have HBD : Hid (∀ x ∈ vals, -50 ≤ x ∧ x ≤ 50) := by
            intro x hx
            obtain ⟨i, hi⟩ := List.mem_iff_getElem?.1 hx
            have hil : i < m.vars.length := by rw [← HL.out]; exact (List.getElem?_eq_some_iff.1 hi).1
            have ht : m.vars[i]? = some m.vars[i] := by simp [hil]
            have hvo := var_ok m HER.out i _ ht
            have := List.all_eq_true.1 HA.out (m.vars[i], x) (List.mem_of_getElem? (i := i) (by rw [List.getElem?_zip_eq_some]; exact ⟨ht, hi⟩))
            simp [insideV] at this
            omega
          have e1 : wr.cell? ⟨w.heap.size, 1, none⟩ = some (.slice a2 m.cons.length c2) := (hbw.cell (p := ⟨w.heap.size, 1, none⟩) (by simp only; omega)).trans d1
          obtain ⟨wo, rfl⟩ : ∃ wo : World, wo = wr := ⟨_, rfl⟩
          go_wp2
          clear hk hall hbw hlt e1
          go_loopw [50] (fun i wr => ∃ k : Nat, k ≤ m.cons.length ∧ i = .int .i64 k ∧ Hid ((m.cons.take k).all (fun c => holdsC c vals) = true) ∧ Below w.heap.size w wr) (fun i _ => m.cons.length - (intOf i).toNat)
          case atStart => exact ⟨0, by omega, rfl, rfl, HBW.out⟩
          case round =>
            obtain ⟨j, hj, rfl, hall, hbw⟩ := hrel
            have HBR : Hid (Below w.heap.size w wr) := hbw
            clear hbw
            by_cases hlt : j < m.cons.length
            · obtain ⟨c, hc⟩ : ∃ c, m.cons[j]? = some c := ⟨m.cons[j], by simp [hlt]⟩
              have HCC : Hid (m.cons[j]? = some c) := hc
              obtain ⟨b, off, vv, vc, vr, vl, ha, hb, f0, f1, f2, f3, f4, f5, hka⟩ := HC.out j c hc
              subst ha
              have e0 := (HBR.out.cell (p := ⟨b, off + j * 6, none⟩) hb).trans f0
              have e1 := (HBR.out.cell (p := ⟨b, off + j * 6 + 1, none⟩) hb).trans f1
              have e2 := (HBR.out.cell (p := ⟨b, off + j * 6 + 2, none⟩) hb).trans f2
              have e3 := (HBR.out.cell (p := ⟨b, off + j * 6 + 3, none⟩) hb).trans f3
              have e4 := (HBR.out.cell (p := ⟨b, off + j * 6 + 4, none⟩) hb).trans f4
              have e5 := (HBR.out.cell (p := ⟨b, off + j * 6 + 5, none⟩) hb).trans f5
              have HK : Hid (KArg wr vv vc vr vl c) := KArg.below HBR.out hka
              have HCE : Hid (conE vals.length c = 0) := by rw [HL.out]; exact con_ok m HER.out j c hc
              obtain ⟨⟨q1, r1, rfl, _, _⟩, ⟨q2, r2, rfl, _, _⟩, ⟨q3, r3, rfl, _, _⟩, ⟨q4, r4, rfl, _, _⟩⟩ := hka
              clear hc f0 f1 f2 f3 f4 f5 hb
              cases hq : holdsC c vals
              · have HN : Hid (R = (false, 0)) := by rw [HE3.out, all_hit (fun c => holdsC c vals) m.cons j c HCC.out hq]; rfl
                go_wp2_with fail
                refine (holds_any c vals _ _ _ _ _ _ (KArg.below (below_alloc _ _) HK.out) (HVA.out _ (HBR.out.trans ((below_alloc _ _).mono HBR.out.size))) HCE.out HBD.out).mono ?_
                rintro e w2 ⟨rfl, hb2⟩
                rw [hq]
                have hb3 : Below w.heap.size w w2 := (HBR.out.trans ((below_alloc _ _).mono HBR.out.size)).trans (hb2.mono (by have := HBR.out.size; simp; omega))
                clear hb2 hq
                go_wp2
                go_ret2
                exact ⟨by rw [HN.out]; rfl, hb3⟩
              · have HN : Hid ((m.cons.take (j + 1)).all (fun c => holdsC c vals) = true) := all_next (fun c => holdsC c vals) m.cons j c HCC.out hall.out hq
                go_wp2_with fail
                refine (holds_any c vals _ _ _ _ _ _ (KArg.below (below_alloc _ _) HK.out) (HVA.out _ (HBR.out.trans ((below_alloc _ _).mono HBR.out.size))) HCE.out HBD.out).mono ?_
                rintro e w2 ⟨rfl, hb2⟩
                rw [hq]
                have hb3 : Below w.heap.size w w2 := (HBR.out.trans ((below_alloc _ _).mono HBR.out.size)).trans (hb2.mono (by have := HBR.out.size; simp; omega))
                clear hb2 hq
                go_wp2
                go_roundw
                case rel => exact ⟨j + 1, by omega, by go_num, HN, hb3⟩
                case measure => simp [intOf]; omega
            · have HN : Hid (R = (true, 0)) := by rw [HE3.out, all_end _ m.cons j hlt hall.out]; rfl
              go_wp2
              go_ret2
              exact ⟨by rw [HN.out]; rfl, HBR.out⟩
    · have g0 : ((vals.length : Int) != (m.vars.length : Int)) = true := by simp; omega
      have HN : Hid (R = (false, 1)) := by rw [HE.out, if_pos rfl, if_neg hl]; rfl
      clear hl
      go_wp2
      go_ret2
      exact ⟨by rw [HN.out]; rfl, HB1.out⟩
  · have HN : Hid (R = (false, er)) := by rw [HE.out, if_neg he]; rfl
    have he2 : (er != 0) = true := by simpa using he
    clear he
    go_wp2
    go_ret2
    exact ⟨by rw [HN.out]; rfl, HB1.out⟩
end Go.Proofs.YtdjbejlbmaiocagGreatDoor
/-
  WALK: modelBegun.
-/
namespace Go.Proofs.YtdjbejlbmaiocagGreatDoor
open Go.RowKit

theorem two_holds : holdsA twoM 0 [0, 1] = (true, 0) := by kernel_rfl
theorem two_all : allA twoM [2, 1] = (false, 0) := by kernel_rfl
theorem sort01 : sortI [0, 1] = [0, 1] := by
  unfold sortI
  exact List.mergeSort_of_pairwise (by decide)
theorem two_scope : scopeA twoM 0 = ([0, 1], 0) := by
  have h0 : conCheck twoM 0 = 0 := by kernel_rfl
  unfold scopeA
  rw [if_pos h0]
  have h1 : scopeL (twoM.cons.getD (0 : Int).toNat noCon) = [0, 1] := by rfl
  unfold scopeC
  rw [h1, sort01]
  decide
/-- A list of two, written out. -/
theorem ilit2 {w : World} (a b : Int) (B : Nat) (h : B = w.heap.size) : IArg (w.alloc (.cells #[.int .i64 a, .int .i64 b] 3)) (.slice (some ⟨B, 0, none⟩) 2 2) [a, b] := by
  subst h
  refine ⟨_, 2, rfl, ⟨by simp, by unfold maxLen; omega⟩, fun i z hz => ?_⟩
  match i, hz with
  | 0, hz => cases hz; exact ⟨_, 0, rfl, by simp, by simp⟩
  | 1, hz => cases hz; exact ⟨_, 0, rfl, by simp, by simp⟩

set_option maxHeartbeats 1600000 in
set_option maxRecDepth 100000 in
theorem begun_model (w : World) :
    Calls Tryz.prog 18 #[] w fun e w' => e = .returned (.bool true) ∧ Below w.heap.size w w' := by
  go_enter Tryz.func18, Tryz.ntmps18
  go_wp2_with fail
  refine (two_any _).mono ?_
  rintro e w1 ⟨vs, cs, rfl, hm, hb1⟩
  have HM : Hid (MArg w1 vs cs twoM) := hm
  clear hm
  go_wp2_with fail
  refine (mholds_any twoM 0 [0, 1] vs cs _ _ (MArg.below (below_alloc _ _) HM.out) (ilit2 0 1 _ rfl)).mono ?_
  rintro e w2 ⟨rfl, hb2⟩
  rw [two_holds]
  have hs1 := hb1.size
  have hB2 : Below w.heap.size w w2 := (hb1.alloc hs1 _).trans (hb2.mono (by simp; omega))
  clear hb1 hb2 HM hs1
  go_wp2_with fail
  refine (two_any _).mono ?_
  rintro e w3 ⟨vs, cs, rfl, hm, hb3⟩
  have HM : Hid (MArg w3 vs cs twoM) := hm
  clear hm
  go_wp2_with fail
  refine (mall_any twoM [2, 1] vs cs _ _ (MArg.below (below_alloc _ _) HM.out) (ilit2 2 1 _ rfl)).mono ?_
  rintro e w4 ⟨rfl, hb4⟩
  rw [two_all]
  have hs2 := hB2.size
  have hs3 := hb3.size
  have hB4 : Below w.heap.size w w4 := hB2.trans ((((hb3.alloc hs3 _).trans (hb4.mono (by simp; omega)))).mono hs2)
  clear hb3 hb4 HM hs2 hs3 hB2
  go_wp2_with fail
  refine (two_any _).mono ?_
  rintro e w5 ⟨vs, cs, rfl, hm, hb5⟩
  go_wp2_with fail
  refine (mscope_any twoM 0 vs cs _ hm).mono ?_
  rintro e w6 ⟨x, rfl, hx, hb6⟩
  rw [two_scope] at hx ⊢
  have HX : Hid (∀ w' : World, Below w6.heap.size w6 w' → IArg w' x [0, 1]) := fun w' h => IArg.below h hx
  obtain ⟨a6, c6, rfl, _, _⟩ := hx
  have hs4 := hB4.size
  have hs5 := hb5.size
  have hB6 : Below w.heap.size w w6 := hB4.trans ((hb5.trans (hb6.mono hs5)).mono hs4)
  clear hb5 hb6 hm hs4 hs5 hB4
  go_wp2_with fail
  refine (two_any _).mono ?_
  rintro e w7 ⟨vs, cs, rfl, hm, hb7⟩
  go_wp2_with fail
  refine (check_model twoM vs cs _ hm).mono ?_
  rintro e w8 ⟨rfl, hb8⟩
  rw [two_checks]
  have hs7 := hb7.size
  have hB8 : Below w6.heap.size w6 w8 := hb7.trans (hb8.mono hs7)
  have hs8 := hB8.size
  clear hb7 hb8 hm hs7
  go_wp2_with fail
  refine (sameints_any [0, 1] [0, 1] _ _ _ (HX.out _ (hB8.alloc hs8 _)) (ilit2 0 1 _ rfl)).mono ?_
  rintro e w9 ⟨rfl, n, h9⟩
  rw [show decide (([0, 1] : List Int) = [0, 1]) = true from by decide]
  have hB9 : Below w.heap.size w w9 := hB6.trans (((hB8.alloc hs8 _).trans ((draws0 h9).mono (by simp; omega))).mono hB6.size)
  clear h9
  go_wp2
  go_ret
  exact ⟨rfl, hB9⟩
end Go.Proofs.YtdjbejlbmaiocagGreatDoor
/-
  PLAIN: what is best is at least as good as whatever holds. WALK: BestLeast.
-/
namespace Go.Proofs.YtdjbejlbmaiocagGreatDoor
open Go.RowKit

theorem sol_of_all (m : Mod) (vals : List Int) (h : allA m vals = (true, 0)) : checkM m = 0 ∧ Sol m vals := by
  obtain ⟨h0, h1, h2⟩ := allA_parts m vals h
  exact ⟨h0, maybe_of m.vars vals h1, h2⟩
/-- WHAT IS BEST IS AT LEAST AS GOOD AS WHATEVER HOLDS; and where there is none, nothing does. -/
theorem best_least (m : Mod) (fuel : Int) (vals : List Int) (he : (bestA m fuel).2 = 0) (ha : allA m vals = (true, 0)) (hv : (bestA m fuel).1.verdict ≠ 3) :
    (bestA m fuel).1.verdict = 1 ∧ (bestA m fuel).1.values.length = vals.length ∧ (m.goal = 1 → valAt (bestA m fuel).1.values m.var ≤ valAt vals m.var) ∧ (m.goal = 2 → valAt vals m.var ≤ valAt (bestA m fuel).1.values m.var) := by
  obtain ⟨hm, hs⟩ := sol_of_all m vals ha
  obtain ⟨_, _, hgo⟩ := goal_var m hm
  unfold bestA at he hv ⊢
  by_cases hg : m.goal = 0
  · rw [if_pos hg] at he hv ⊢
    unfold solveA at he hv ⊢
    rw [if_pos hm] at he hv ⊢
    by_cases hf : fuel < 0 ∨ 300 < fuel
    · rw [if_pos hf] at he; cases he
    · rw [if_neg hf] at he hv ⊢
      obtain ⟨n1, n2, n3, n4, n5⟩ := next_sound m hm (fun _ => True) _ (startSk fuel) (Nat.lt_succ_self _) (fun x _ _ c hc => by cases hc)
      by_cases h2 : (solveR m fuel).1 = 2
      · exact absurd trivial (n3 h2 vals hs)
      · rw [if_neg h2] at hv ⊢
        have h1 : (solveR m fuel).1 = 1 := by
          rcases n4 with h | h | h
          · exact h
          · exact absurd h h2
          · exact absurd h hv
        have hl := (n2 h1).1.1.1
        exact ⟨h1, hl.trans hs.1.1.symm, fun h => by omega, fun h => by omega⟩
  · rw [if_neg hg] at he hv ⊢
    rw [if_pos hm] at he hv ⊢
    have hg2 : m.goal = 1 ∨ m.goal = 2 := by omega
    by_cases hf : fuel < 0 ∨ 300 < fuel
    · rw [if_pos hf] at he; cases he
    · rw [if_neg hf] at he hv ⊢
      obtain ⟨c1, c2, c3, c4⟩ := climb_sound m hm hg2 _ (startSk fuel) [] (Nat.lt_succ_self _) (fun x _ _ c hc => by cases hc) (Or.inl rfl)
      change (climbA m fuel).verdict = 1 → _ at c1
      change (climbA m fuel).verdict = 2 → _ at c2
      change (climbA m fuel).verdict = 1 → _ at c3
      change (climbA m fuel).verdict = 1 ∨ (climbA m fuel).verdict = 2 ∨ (climbA m fuel).verdict = 3 at c4
      simp only at hv ⊢
      have h1 : (climbA m fuel).verdict = 1 := by
        rcases c4 with h | h | h
        · exact h
        · exact absurd hs (c2 h vals)
        · exact absurd h hv
      have hb := c1 h1 vals hs
      have hsl := c3 h1
      change NoBetter m (climbA m fuel).values vals at hb
      change Sol m (climbA m fuel).values at hsl
      unfold NoBetter at hb
      refine ⟨h1, hsl.1.1.trans hs.1.1.symm, fun h => ?_, fun h => ?_⟩
      · rw [if_pos h] at hb; exact hb
      · rw [if_neg (by omega)] at hb; exact hb

set_option maxHeartbeats 3200000 in
set_option maxRecDepth 100000 in
theorem bestleast_any (m : Mod) (fuel : Int) (vals : List Int) (vs cs v : Value) (w : World) (hma : MArg w vs cs m) (hv : IArg w v vals) (hT : TabT w) :
    Calls Tryz.prog 4 #[modV vs cs m, .int .i64 fuel, v] w fun e w' => e = .returned (.bool true) ∧ Below w.heap.size w w' := by
  have HMA : Hid (∀ w', Below w.heap.size w w' → MArg w' vs cs m) := fun w' h => MArg.below h hma
  have HV : Hid (∀ w', Below w.heap.size w w' → IArg w' v vals) := fun w' h => IArg.below h hv
  have HT : Hid (∀ w', Below w.heap.size w w' → TabT w') := fun w' h => hT.below h
  obtain ⟨⟨a1, c1, rfl, _, _⟩, ⟨a2, c2, rfl, _, _⟩⟩ := hma
  obtain ⟨av, cv, rfl, ⟨hlv, hlm⟩, hvr⟩ := hv
  have HVR : Hid (∀ (i : Nat) (z : Int), vals[i]? = some z → ∃ b off, av = some ⟨b, off, none⟩ ∧ b < w.heap.size ∧ w.cell? ⟨b, off + i, none⟩ = some (.int .i64 z)) := hvr
  have HBL : Hid ((bestA m fuel).2 = 0 → allA m vals = (true, 0) → (bestA m fuel).1.verdict ≠ 3 →
    (bestA m fuel).1.verdict = 1 ∧ (bestA m fuel).1.values.length = vals.length ∧ (m.goal = 1 → valAt (bestA m fuel).1.values m.var ≤ valAt vals m.var) ∧ (m.goal = 2 → valAt vals m.var ≤ valAt (bestA m fuel).1.values m.var)) := best_least m fuel vals
  obtain ⟨⟨⟨RV, RX, RP⟩, RE⟩, hR⟩ : ∃ R, bestA m fuel = R := ⟨_, rfl⟩
  have HR : Hid (bestA m fuel = (⟨RV, RX, RP⟩, RE)) := hR
  rw [hR] at HBL
  obtain ⟨A, EA, hA⟩ : ∃ A EA, allA m vals = (A, EA) := ⟨_, _, rfl⟩
  have HA : Hid (allA m vals = (A, EA)) := hA
  rw [hA] at HBL
  clear hR hA hvr hT
  unfold modV
  go_enter Tryz.func4, Tryz.ntmps4
  go_wp2_with fail
  have hbY : Below w.heap.size w (w.alloc (.cells #[.slice a1 m.vars.length c1, .slice a2 m.cons.length c2, .int .i64 m.goal, .int .i64 m.var] 25)) := below_alloc _ _
  have hblY := heap_alloc_new w (.cells #[.slice a1 m.vars.length c1, .slice a2 m.cons.length c2, .int .i64 m.goal, .int .i64 m.var] 25)
  refine (begun_best _ (HT.out _ hbY)).mono ?_
  rintro e w1 ⟨rfl, hb1⟩
  have HQ1 : Hid (w1.heap[w.heap.size]? = some (.cells #[.slice a1 m.vars.length c1, .slice a2 m.cons.length c2, .int .i64 m.goal, .int .i64 m.var] 25)) := (hb1.block _ (by simp)).trans hblY
  have HB1 : Hid (Below w.heap.size w w1) := hbY.trans (hb1.mono (by simp))
  clear hb1 hbY hblY
  go_wp2_with fail
  refine (begun_model _).mono ?_
  rintro e w2 ⟨rfl, hb2⟩
  have HQ2 : Hid (w2.heap[w.heap.size]? = some (.cells #[.slice a1 m.vars.length c1, .slice a2 m.cons.length c2, .int .i64 m.goal, .int .i64 m.var] 25)) := (hb2.block _ (Array.getElem?_eq_some_iff.1 HQ1.out).1).trans HQ1.out
  have HB2 : Hid (Below w.heap.size w w2) := HB1.out.trans (hb2.mono HB1.out.size)
  clear hb2
  have k0 := blk9 HQ2.out 0 _ rfl
  have k1 := blk9 HQ2.out 1 _ rfl
  have k2 := blk9 HQ2.out 2 _ rfl
  have k3 := blk9 HQ2.out 3 _ rfl
  have kl := (Array.getElem?_eq_some_iff.1 HQ2.out).1
  go_wp2_with fail
  refine (best_any m fuel (.slice a1 m.vars.length c1) (.slice a2 m.cons.length c2) w2 (HMA.out _ HB2.out) (HT.out _ HB2.out)).mono ?_
  rintro e w3 ⟨vv, pp, rfl, hq, hb3⟩
  rw [HR.out] at hq ⊢
  dsimp only at hq ⊢
  obtain ⟨⟨ax, cx, rfl⟩, ap, np, cp, rfl⟩ := hq.forms
  simp only
  have HQ3 : Hid (w3.heap[w.heap.size]? = some (.cells #[.slice a1 m.vars.length c1, .slice a2 m.cons.length c2, .int .i64 m.goal, .int .i64 m.var] 25)) := (hb3.block _ kl).trans HQ2.out
  have HB3 : Hid (Below w.heap.size w w3) := HB2.out.trans (hb3.mono HB2.out.size)
  have HX : Hid (∀ Y, Below w3.heap.size w3 Y → IArg Y (.slice ax RX.length cx) RX) := fun Y hY => IArg.below hY (own_ilist hq.val)
  clear hb3 hq k0 k1 k2 k3 kl
  have k0 := blk9 HQ3.out 0 _ rfl
  have k1 := blk9 HQ3.out 1 _ rfl
  have k2 := blk9 HQ3.out 2 _ rfl
  have k3 := blk9 HQ3.out 3 _ rfl
  have kl := (Array.getElem?_eq_some_iff.1 HQ3.out).1
  go_wp2_with fail
  have hbZ : Below w3.heap.size w3 (w3.alloc (.cells #[.int .i64 RV, .slice ax RX.length cx, .slice ap np cp] 29)) := below_alloc _ _
  have hblZ := heap_alloc_new w3 (.cells #[.int .i64 RV, .slice ax RX.length cx, .slice ap np cp] 29)
  have hsZ : w3.heap.size < (w3.alloc (.cells #[.int .i64 RV, .slice ax RX.length cx, .slice ap np cp] 29)).heap.size := by simp
  refine (mall_any m vals (.slice a1 m.vars.length c1) (.slice a2 m.cons.length c2) _ _ (HMA.out _ (HB3.out.trans (hbZ.mono HB3.out.size))) (HV.out _ (HB3.out.trans (hbZ.mono HB3.out.size)))).mono ?_
  rintro e w4 ⟨rfl, hb4⟩
  rw [HA.out]
  dsimp only
  have HB34 : Hid (Below w3.heap.size w3 w4) := hbZ.trans (hb4.mono hbZ.size)
  have HQ4 : Hid (w4.heap[w.heap.size]? = some (.cells #[.slice a1 m.vars.length c1, .slice a2 m.cons.length c2, .int .i64 m.goal, .int .i64 m.var] 25)) := (HB34.out.block _ kl).trans HQ3.out
  have HZ4 : Hid (w4.heap[w3.heap.size]? = some (.cells #[.int .i64 RV, .slice ax RX.length cx, .slice ap np cp] 29)) := (hb4.block _ hsZ).trans hblZ
  have HB4 : Hid (Below w.heap.size w w4) := HB3.out.trans (HB34.out.mono HB3.out.size)
  clear hb4 hbZ hblZ hsZ k0 k1 k2 k3 kl
  have k2 := blk9 HQ4.out 2 _ rfl
  have k3 := blk9 HQ4.out 3 _ rfl
  have kl := (Array.getElem?_eq_some_iff.1 HQ4.out).1
  have j0 := blk9 HZ4.out 0 _ rfl
  have j1 := blk9 HZ4.out 1 _ rfl
  have jl := (Array.getElem?_eq_some_iff.1 HZ4.out).1
  by_cases h1 : RE = 0
  · by_cases h2 : EA = 0
    · cases A
      · subst h1 h2
        clear HBL
        go_wp2
        go_ret
        exact ⟨rfl, HB4.out⟩
      · by_cases h3 : RV = 3
        · subst h1 h2 h3
          clear HBL
          go_wp2
          go_ret
          exact ⟨rfl, HB4.out⟩
        · have hbl := HBL.out h1 (by rw [h2]) h3
          subst h1 h2
          obtain ⟨b1, b2, b3, b4⟩ := hbl
          try simp only at b1 b2 b3 b4
          subst b1
          have hm0 : checkM m = 0 := (sol_of_all m vals HA.out).1
          have hs0 := (sol_of_all m vals HA.out).2
          obtain ⟨g1, g2, g3⟩ := goal_var m hm0
          obtain ⟨k, hk⟩ : ∃ k : Nat, m.var = (k : Int) := ⟨m.var.toNat, by omega⟩
          have hkv : k < vals.length := by rw [hs0.1.1]; omega
          have hkx : k < RX.length := by omega
          obtain ⟨z, hz⟩ : ∃ z, vals[k]? = some z := ⟨vals[k], by rw [List.getElem?_eq_getElem hkv]⟩
          obtain ⟨y, hy⟩ : ∃ y, RX[k]? = some y := ⟨RX[k], by rw [List.getElem?_eq_getElem hkx]⟩
          have hvz : valAt vals m.var = z := by unfold valAt; rw [hk, Int.toNat_natCast, List.getD_eq_getElem?_getD, hz]; rfl
          have hvy : valAt RX m.var = y := by unfold valAt; rw [hk, Int.toNat_natCast, List.getD_eq_getElem?_getD, hy]; rfl
          rw [hvz, hvy] at b3 b4
          obtain ⟨bz, oz, ha, hlz, cz⟩ := HVR.out k z hz
          subst ha
          have dz := (HB4.out.cell (p := ⟨bz, oz + k, none⟩) hlz).trans cz
          have lz : bz < w4.heap.size := Nat.lt_of_lt_of_le hlz HB4.out.size
          obtain ⟨ax', cx', hxe, _, hxr⟩ := HX.out _ HB34.out
          cases hxe
          obtain ⟨bx, ox, hax, hlx, dx⟩ := hxr k y hy
          subst hax
          rw [hk] at k3
          have q1 : (k : Int) < (vals.length : Int) := by omega
          have q2 : (k : Int) < (RX.length : Int) := by omega
          have q3 : ((RX.length : Int) != (vals.length : Int)) = false := by rw [b2]; simp
          have B3 : Hid (m.goal = 1 → y ≤ z) := b3
          have B4 : Hid (m.goal = 2 → z ≤ y) := b4
          clear HBL b2 b3 b4 hvz hvy hz hy cz hxr h3 hm0 hs0 g1 g2 hlv hlm
          by_cases hg1 : m.goal = 1
          · have hyz := B3.out hg1
            rw [hg1] at k2
            have hyz' : decide (y ≤ z) = true := by simpa using hyz
            clear hg1 g3 B3 B4 hyz
            go_wp2_with fail
            go_quiet (fail)
            go_wp2
            go_ret
            exact ⟨rfl, below_drewN HB4.out _⟩
          · by_cases hg2 : m.goal = 2
            · have hyz := B4.out hg2
              rw [hg2] at k2
              have hyz' : decide (y ≥ z) = true := by simpa using hyz
              clear hg1 hg2 g3 B3 B4 hyz
              go_wp2_with fail
              go_quiet (fail)
              go_wp2
              go_ret
              exact ⟨rfl, below_drewN HB4.out _⟩
            · have hg0 : m.goal = 0 := by omega
              rw [hg0] at k2
              clear hg0 hg1 hg2 g3 B3 B4
              go_wp2
              go_ret
              exact ⟨rfl, HB4.out⟩
    · have he : (EA != 0) = true := by simpa using h2
      subst h1
      clear h2 HBL
      go_wp2
      go_ret
      exact ⟨rfl, HB4.out⟩
  · have he : (RE != 0) = true := by simpa using h1
    clear h1 HBL
    go_wp2
    go_ret
    exact ⟨rfl, HB4.out⟩
end Go.Proofs.YtdjbejlbmaiocagGreatDoor
