/-
  PART 9 of what the proof leans on (SekD, SekG, SekE, FolE, SekF, SeaA, BstA, BstB, BstP).
-/
import Derived.Test.YtdjbejlbmaiocagGreatDoorPartH
import Derived.Lib.AppendZerosOnto
import Derived.Lib.SliceRun
/-
  WALK: package seek: turn.
-/
namespace Go.Proofs.YtdjbejlbmaiocagGreatDoor
open Go.RowKit Go.Maps

/-- Rules of a searcher, as Add has them. -/
theorem SkD.add {W w w' : World} {s r mb : Nat} {sv pv cv cv' prv pav : Value} {L : List SV} {M : List Nat} {S : Sk} {V : World} {h : Nat} (hD : SkD W w s r mb sv pv cv prv pav L M S) (hV : V.heap.size = W.heap.size) (hR : RulD V w' r sv pv cv' (S.cs ++ [h])) (hf : Fr (fun k => k = r ∨ cv.ownBlock = some k) w w') :
    SkD W w' s r mb sv pv cv' prv pav L M ⟨S.cs ++ [h], S.fuel, S.proof, S.path⟩ := by
  have hcr : cv.ownBlock ≠ some r := blk_not_own hD.own hD.blkR (by decide)
  have hcs : cv.ownBlock ≠ some s := blk_not_own hD.own hD.blkS (by decide)
  have nX : ∀ {B : Nat} {e : TypeId} {n1 n2 : Nat} {v : Value} {xs : List Value}, w.ownsRow B e n1 v n2 xs → e ≠ 183 → e ≠ 204 → w'.ownsRow B e n1 v n2 xs := fun ho he hr => by
    refine own_frx ho hf fun g hg hx => ?_
    rcases hx with hx | hx
    · subst hx
      exact blk_not_own ho hD.blkR (Ne.symm hr) hg
    · rcases own_apart ho hD.own he with h1 | h1
      · rw [h1] at hg; cases hg
      · exact h1 (hg.trans hx.symm)
  refine ⟨hR.blk, (hf.block s (Array.getElem?_eq_some_iff.1 hD.blkS).1 (fun hx => ?_)).trans hD.blkS, ?_, hR.lt36, ⟨nX hD.prf.1 (by decide) (by decide), fun x hx => nX (hD.prf.2 x hx) (by decide) (by decide)⟩, hD.prfE, ?_, nX hD.path (by decide) (by decide), hD.apart, ?_⟩
  · rcases hx with hx | hx
    · exact hD.rs hx.symm
    · exact hcs hx
  · rw [← hV]; exact hR.own
  · obtain ⟨es, clock, h1, h2⟩ := hD.map
    refine ⟨es, clock, (hf.block mb (Array.getElem?_eq_some_iff.1 h1).1 (fun hx => ?_)).trans h1, h2⟩
    rcases hx with hx | hx
    · exact hD.nr hx.symm
    · exact own_not_map hD.own hD.map hx
  · refine ⟨hf.os.trans hD.fr.os, hf.tape.trans hD.fr.tape, hf.output.trans hD.fr.output, Nat.le_trans hD.fr.size hf.size, fun k hk hn => (hf.block k (Nat.lt_of_lt_of_le hk hD.fr.size) (fun hx => ?_)).trans (hD.fr.block k hk hn)⟩
    rcases hx with hx | hx
    · exact hn (Or.inl hx)
    · have := (hD.own.lt k hx).1
      omega
/-- The world as it was, of the blocks that are old. -/
def oldW (w : World) (n : Nat) : World := { w with heap := w.heap.extract 0 n }
theorem oldW_size (w : World) (n : Nat) (h : n ≤ w.heap.size) : (oldW w n).heap.size = n := by
  show (w.heap.extract 0 n).size = n
  simp; omega
theorem oldW_fr {X : Nat → Prop} (w : World) (n : Nat) (h : n ≤ w.heap.size) : Fr X (oldW w n) w :=
  ⟨rfl, rfl, rfl, by rw [oldW_size w n h]; exact h, fun k hk _ => by
    rw [oldW_size w n h] at hk
    show w.heap[k]? = (w.heap.extract 0 n)[k]?
    rw [Array.getElem?_extract]
    simp
    intro h9
    omega⟩
theorem SkD.rulD {W w : World} {s r mb : Nat} {sv pv cv prv pav : Value} {L : List SV} {M : List Nat} {S : Sk} (hD : SkD W w s r mb sv pv cv prv pav L M S) : RulD (oldW w W.heap.size) w r sv pv cv S.cs :=
  ⟨hD.blkR, by rw [oldW_size w _ hD.fr.size]; exact hD.own, hD.lt36, oldW_fr w _ hD.fr.size⟩
theorem SkD.rul {W w : World} {s r mb : Nat} {sv pv cv prv pav : Value} {L : List SV} {M : List Nat} {S : Sk} {vs : List MVar} {pt : List (List Nat)} (hB : SkB W s r mb sv pv vs pt) (hD : SkD W w s r mb sv pv cv prv pav L M S) : Rul (oldW w W.heap.size) r sv pv vs pt := by
  refine ⟨by rw [oldW_size w _ hD.fr.size]; exact hB.rlt, fun w' hf => hB.keep w' ?_⟩
  have hz := oldW_size w _ hD.fr.size
  refine ⟨hf.os.trans hD.fr.os, hf.tape.trans hD.fr.tape, hf.output.trans hD.fr.output, by rw [← hz]; exact hf.size, fun k hk hn => ?_⟩
  have h1 := hf.block k (by rw [hz]; exact hk) (fun he => hn (Or.inl he))
  have h2 : (oldW w W.heap.size).heap[k]? = w.heap[k]? := by
    show (w.heap.extract 0 W.heap.size)[k]? = w.heap[k]?
    rw [Array.getElem?_extract]
    have h8 := hD.fr.size
    simp
    intro h9
    omega
  exact h1.trans (h2.trans (hD.fr.block k hk hn))

set_option maxHeartbeats 6400000 in
set_option maxRecDepth 100000 in
theorem turn_any (vs : List MVar) (hva : VarsAll vs) (hn1 : 1 ≤ vs.length) (pt : List (List Nat)) (W : World) (s r mb : Nat) (sv pv cv prv pav : Value) (hB : SkB W s r mb sv pv vs pt) (L : List SV) (S : Sk) (hS : S.proof.length ≤ 6000) (hcs : S.cs.length + S.fuel ≤ 1000) (hp : S.path.length ≤ 36) (hz : leftSk vs pt S = 0) (w : World)
    (hD : SkD W w s r mb sv pv cv prv pav L (S.proof.map fun x => heldP vs x.cla) S) :
    Calls Tryz.prog 133 #[.pointer (some ⟨s, 0, none⟩)] w fun e w' => e = .returned (.int .i64 (turnP vs pt S).1) ∧ TFr w w' ∧ ∃ cv' prv' pav' L', SkD W w' s r mb sv pv cv' prv' pav' L' ((turnP vs pt S).2.proof.map fun x => heldP vs x.cla) (turnP vs pt S).2 := by
  obtain ⟨R, hR⟩ : ∃ R, turnP vs pt S = R := ⟨_, rfl⟩
  rw [hR]
  unfold turnP at hR
  have HVO : Hid (VarsAll vs) := hva
  have HSB : Hid (SkB W s r mb sv pv vs pt) := hB
  have HD : Hid (SkD W w s r mb sv pv cv prv pav L (S.proof.map fun x => heldP vs x.cla) S) := hD
  obtain ⟨asv, csv, hsv⟩ : ∃ a c, sv = .slice a vs.length c := by obtain ⟨a, c, h, _⟩ := (hB.keep w hD.fr).1; exact ⟨a, c, h⟩
  subst hsv
  obtain ⟨apa, cpa, rfl⟩ := own_form hD.path
  obtain ⟨apr, cpr, rfl⟩ := own_form hD.prf.1
  obtain ⟨s0, s1, s2, s3, s4, s5, s6⟩ := hD.cells
  have z2 := hD.frz 2
  have hf300 : S.fuel ≤ 1000 := by omega
  by_cases h0 : S.fuel = 0
  · rw [if_pos h0] at hR
    subst hR
    have s3' : w.cell? ⟨s, 2, none⟩ = some (.int .i64 0) := by rw [s3, h0]; rfl
    clear s3 hD hB hva hz
    go_enter Tryz.func133, Tryz.ntmps133
    go_wp2
    go_ret
    exact ⟨rfl, TFr.refl _, _, _, _, _, HD.out⟩
  · rw [if_neg h0] at hR
    have HR := (show Hid _ from hR)
    obtain ⟨f, hf⟩ : ∃ f, S.fuel = f + 1 := ⟨S.fuel - 1, by omega⟩
    have hLA : leastA vs S.cs pt S.path = (leastC vs S.cs pt S.path, true) := by
      unfold leastA nothingP
      unfold leftSk at hz
      rw [hz]; rfl
    obtain ⟨C, hC⟩ : ∃ C, leastC vs S.cs pt S.path = C := ⟨_, rfl⟩
    have hCm : ∀ x ∈ C, x ∈ S.path := fun x hx => leastC_mem vs S.cs pt S.path x (by rw [hC]; exact hx)
    have hCl : C.length ≤ S.path.length := by rw [← hC]; exact leastC_len vs S.cs pt S.path
    rw [hC] at hLA HR
    have s3' : w.cell? ⟨s, 2, none⟩ = some (.int .i64 ((f : Int) + 1)) := by rw [s3, hf]; congr 2
    have HDY : Hid (SkD W (w.setCell ⟨s, 2, none⟩ (.int .i64 (f : Int))) s r mb (.slice asv vs.length csv) pv cv (.slice apr L.length cpr) (.slice apa S.path.length cpa) L (S.proof.map fun x => heldP vs x.cla) ⟨S.cs, f, S.proof, S.path⟩) := HD.out.burn f
    rw [hf] at HR
    have HTY : Hid (TFr w (w.setCell ⟨s, 2, none⟩ (.int .i64 (f : Int)))) := TFr.set HD.out.blkS tno_sek 2 _
    have hf1 : f ≤ 1000 := by omega
    have hcs1 : S.cs.length ≤ 1000 := by omega
    have HLE : Hid (∀ Z, SkD W Z s r mb (.slice asv vs.length csv) pv cv (.slice apr L.length cpr) (.slice apa S.path.length cpa) L (S.proof.map fun x => heldP vs x.cla) ⟨S.cs, f, S.proof, S.path⟩ →
        Calls Tryz.prog 193 #[.pointer (some ⟨r, 0, none⟩), .slice apa S.path.length cpa] Z fun e w' => ∃ x, e = .returned (.tuple #[x, .bool true]) ∧ LOwn Z.heap.size w' x C ∧ Below Z.heap.size Z w') := fun Z hZ => by
      have := rleast_any vs hva hn1 S.cs pt S.path (by omega) r _ pv cv _ Z (hZ.rules hB) (LOwn.arg hZ.path)
      rw [hLA] at this
      exact this
    clear s3 hD hB hva hz hf h0 hLA hC hcs HD
    go_enter Tryz.func133, Tryz.ntmps133
    go_wp2_with fail
    obtain ⟨Y, hY⟩ : ∃ Y, w.setCell ⟨s, 2, none⟩ (.int .i64 (f : Int)) = Y := ⟨_, rfl⟩
    rw [hY] at HDY HTY ⊢
    clear hY s0 s1 s2 s3' s4 s5 s6 z2
    obtain ⟨s0, s1, s2, s3, s4, s5, s6⟩ := HDY.out.cells
    go_region_law
      (first
        | (rw [if_pos (by rfl)]; go_simp; go_at_call 193; refine (HLE.out _ (HDY.out.below (Below.refl _ _).drew)).mono ?_; rintro e w2 ⟨x, rfl, hx2, hb2⟩; have hB2 : Below Y.heap.size Y w2 := (Below.refl _ _).drew.trans hb2; obtain ⟨ax, cx, hxf⟩ := own_form (show w2.ownsRow _ _ _ _ _ _ from hx2); subst hxf; dsimp only))
    all_goals
      have HD2 := (show Hid _ from HDY.out.below hB2)
      have HT2 : Hid (TFr w w2) := HTY.out.trans (TFr.below hB2)
      have HX2 : Hid (LOwn Y.heap.size w2 (.slice ax C.length cx) C) := hx2
      clear hx2 hb2 hB2 s0 s1 s2 s3 s4 s5 s6
      obtain ⟨s0, s1, s2, s3, s4, s5, s6⟩ := HD2.out.cells
      go_wp2_with fail
      refine (rsteps_any vs HVO.out hn1 pt S.cs (by omega) C (by omega) r _ pv cv _ w2 (HD2.out.rules HSB.out) (LOwn.arg HX2.out)).mono ?_
      rintro e w3 ⟨stv, T, rfl, hTe, hst, hTl, hb3⟩
      have HD3 := (show Hid _ from HD2.out.below hb3)
      have HT3' : Hid (TFr w w3) := HT2.out.trans (TFr.below hb3)
      have HX3 : Hid (LOwn Y.heap.size w3 (.slice ax C.length cx) C) := own_below (show w2.ownsRow _ _ _ _ _ _ from HX2.out) hb3
      have HT3 : Hid (StOwn w2.heap.size w3 stv T) := hst
      have HTE : Hid (T.map (·.1) = stepsA vs S.cs pt C) := hTe
      have HPB : Hid (∀ g, (Value.slice apa S.path.length cpa).ownBlock = some g → g < w2.heap.size) := fun g hg => (HD2.out.path.lt g hg).2
      have HQB : Hid (∀ g, (Value.slice apr L.length cpr).ownBlock = some g → g < w2.heap.size) := fun g hg => (HD2.out.prf.1.lt g hg).2
      have HW2 : Hid (W.heap.size ≤ w2.heap.size) := HD2.out.fr.size
      obtain ⟨ast, cst, rfl⟩ := own_form hst.1
      clear hTe hst hb3 s0 s1 s2 s3 s4 s5 s6
      obtain ⟨s0, s1, s2, s3, s4, s5, s6⟩ := HD3.out.cells
      go_wp2_with fail
      refine (prove_any vs HVO.out pt W s r mb _ pv cv _ _ HSB.out L ⟨S.cs, f, S.proof, S.path⟩ hS T hTl w2.heap.size _ w3 HD3.out HT3.out HW2.out HPB.out HQB.out).mono ?_
      rintro e w4 ⟨rfl, prv', L', hd4, hf4, ht4⟩
      have HT4 : Hid (TFr w w4) := HT3'.out.trans ht4
      clear ht4
      have HX4 : Hid (LOwn Y.heap.size w4 (.slice ax C.length cx) C) := by
        have ho : w3.ownsRow Y.heap.size 88 3 (.slice ax C.length cx) C.length (litsCs C) := HX3.out
        refine own_frx ho hf4 fun g hg hx => ?_
        rcases hx with hx | hx | hx
        · subst hx
          exact blk_not_own ho HD3.out.blkS (by decide) hg
        · subst hx
          exact own_not_map ho HD3.out.map hg
        · rcases own_apart ho HD3.out.prf.1 (by decide) with h1 | h1
          · rw [h1] at hg; cases hg
          · exact h1 (hg.trans hx.symm)
      rw [HTE.out] at hd4
      obtain ⟨PR, hPR⟩ : ∃ PR, proveF vs (stepsA vs S.cs pt C) S.proof = PR := ⟨_, rfl⟩
      simp only at hd4
      rw [hPR] at hd4
      have HR4 := HR.out
      rw [hPR] at HR4
      have HD4 : Hid (SkD W w4 s r mb (.slice asv vs.length csv) pv cv prv' (.slice apa S.path.length cpa) L' (PR.map fun x => heldP vs x.cla) ⟨S.cs, f, PR, S.path⟩) := hd4
      have hLP : PR.length = L'.length := by have h9 := hd4.prfE; simp only at h9; rw [← h9, List.length_map]
      obtain ⟨ap4, cp4, rfl⟩ := own_form hd4.prf.1
      clear hd4 hf4 hPR s0 s1 s2 s3 s4 s5 s6 HD2 HD3 HX2 HX3 HT3 HTE HPB HQB HW2 HDY HLE HR
      obtain ⟨s0, s1, s2, s3, s4, s5, s6⟩ := HD4.out.cells
      by_cases h6 : 6000 < L'.length
      · have h6' : (6000 : Int) < (L'.length : Int) := by omega
        rw [if_pos (by omega)] at HR4
        subst HR4
        clear hLP
        go_wp2
        go_ret
        exact ⟨rfl, HT4.out, _, _, _, _, HD4.out⟩
      · have h6' : ¬ (6000 : Int) < (L'.length : Int) := by omega
        rw [if_neg (by omega)] at HR4
        by_cases hc0 : C.length = 0
        · rw [if_pos hc0] at HR4
          subst HR4
          have hc1 : C = [] := List.length_eq_zero_iff.1 hc0
          subst hc1
          clear hLP
          go_wp2
          go_ret
          exact ⟨rfl, HT4.out, _, _, _, _, HD4.out⟩
        · rw [if_neg hc0] at HR4
          have HR5 : Hid _ := HR4
          clear HR4 hLP
          have hc2 : ¬ (C.length : Int) = 0 := by omega
          have hc3 : 0 < C.length := by omega
          have hc4 : ¬ C = [] := fun h => by rw [h] at hc0; exact hc0 rfl
          go_wp2_with fail
          refine (add_any vs HVO.out pt S.cs (by omega) C (oldW w4 W.heap.size) r _ pv cv _ w4 (HD4.out.rul HSB.out) HD4.out.rulD (LOwn.arg HX4.out)).mono ?_
          rintro e w5 ⟨rfl, cv', hr5, hf5⟩
          have hd5 := HD4.out.add (oldW_size w4 _ HD4.out.fr.size) hr5 hf5
          have HT5 : Hid (TFr w w5) := HT4.out.trans ⟨hf5.os, hf5.tape, hf5.output, hf5.size, fun k cs t z hk ht => hf5.block k (Array.getElem?_eq_some_iff.1 hk).1 fun hx => by
            rcases hx with hx | hx
            · subst hx
              have := hk.symm.trans HD4.out.blkR
              simp only [Option.some.injEq, Obj.cells.injEq] at this
              rw [this.2.1] at ht
              exact tno_rul ht
            · rcases HD4.out.own.2 with ⟨hv, _⟩ | ⟨g, cap, cur, hv, _, hh, _⟩
              · rw [hv] at hx; cases hx
              · rw [hv] at hx
                have : g = k := by simpa [Value.ownBlock] using hx
                subst this
                have := hk.symm.trans hh
                simp only [Option.some.injEq, Obj.cells.injEq] at this
                rw [this.2.1] at ht
                exact tno_part ht⟩
          have HX5 : Hid (LOwn Y.heap.size w5 (.slice ax C.length cx) C) := by
            have ho : w4.ownsRow Y.heap.size 88 3 (.slice ax C.length cx) C.length (litsCs C) := HX4.out
            refine own_frx ho hf5 fun g hg hx => ?_
            rcases hx with hx | hx
            · subst hx
              exact blk_not_own ho HD4.out.blkR (by decide) hg
            · rcases own_apart ho HD4.out.own (by decide) with h1 | h1
              · rw [h1] at hg; cases hg
              · exact h1 (hg.trans hx.symm)
          clear hr5 hf5 HX4 HD4 s0 s1 s2 s3 s4 s5 s6
          have hlm : lastL C ∈ C := lastL_mem C hc0
          have hlp : lastL C ∈ S.path := hCm _ hlm
          have hgl : C[C.length - 1]? = some (lastL C) := by unfold lastL; rw [List.getD_eq_getElem?_getD, List.getElem?_eq_getElem (by omega)]; rfl
          obtain ⟨l, hl⟩ : ∃ l, lastL C = l := ⟨_, rfl⟩
          rw [hl] at hlm hlp hgl HR5
          have hidx := idx_lt l S.path hlp
          have HIX : Hid (∀ Z, Below w5.heap.size w5 Z → Calls Tryz.prog 196 #[.slice apa S.path.length cpa, .agg #[.int .i64 l.var, .int .i64 l.op, .int .i64 l.n]] Z fun e w' => e = .returned (.int .i64 (idxL l S.path : Nat)) ∧ Below Z.heap.size Z w') := fun Z hZ =>
            lindex_any l S.path hlp (by omega) _ Z (LOwn.arg (own_below (show w5.ownsRow _ _ _ _ _ _ from hd5.path) hZ))
          obtain ⟨ix, hix⟩ : ∃ ix, idxL l S.path = ix := ⟨_, rfl⟩
          rw [hix] at hidx HIX HR5
          obtain ⟨bx, ox, hax, hbx, x0, x1, x2⟩ := lown_cell HX5.out (C.length - 1) l hgl
          subst hax
          obtain ⟨g, hg, hcap, hcm⟩ : ∃ g, apa = some ⟨g, 0, none⟩ ∧ S.path.length ≤ cpa ∧ cpa ≤ 9223372036854775807 := by
            have ho : w5.ownsRow W.heap.size 88 3 (.slice apa S.path.length cpa) S.path.length (litsCs S.path) := hd5.path
            rcases ho.2 with ⟨_, hn⟩ | ⟨g, cap, cur, he, _, _, k1, k2, _⟩
            · omega
            · cases he
              exact ⟨g, rfl, k1, k2⟩
          subst hg
          have hic : ix ≤ cpa := by omega
          have HD5 : Hid _ := hd5
          obtain ⟨s0, s1, s2, s3, s4, s5, s6⟩ := hd5.cells
          obtain ⟨m, hm⟩ : ∃ m, C.length = m + 1 := ⟨C.length - 1, by omega⟩
          rw [show C.length - 1 = m by omega] at x0 x1 x2
          have hC5 : C.length ≤ 36 := by omega
          clear hgl hlm hlp hl hix hCm HX5 hc2 hc0 hc3 hc4 hd5 hCl
          go_wp2_with fail
          have hm36 : m ≤ 36 := by omega
          have hmm : m < m + 1 := by omega
          have hmi : (m : Int) < (m : Int) + 1 := by omega
          have hwm : IntKind.i64.wrap (m : Int) = (m : Int) := by rw [IntKind.wrap_i64]; omega
          clear hm hC5
          go_region_law
            (first
              | (rw [if_pos (by rfl)]; go_simp; go_at_call 196; refine (HIX.out _ (Below.refl _ _).drew).mono ?_; rintro e w6 ⟨rfl, hb6⟩; have hB6 : Below w5.heap.size w5 w6 := (Below.refl _ _).drew.trans hb6; have t6 := (hB6.cell (p := ⟨s, 5, none⟩) s0).trans s6; have z6 := (HD5.out.below hB6).frz 5; have l6 : s < w6.heap.size := Nat.lt_of_lt_of_le s0 hB6.size; dsimp only))
          all_goals
            have HD6 := (HD5.out.below hB6).cutp ix (by omega) rfl
            have HT6 := (HT5.out.trans (TFr.below hB6)).trans (TFr.set (HD5.out.below hB6).blkS tno_sek 5 (.slice (some ⟨g, 0, none⟩) ix cpa))
            go_wp2
            go_ret
            rw [← HR5.out]
            exact ⟨rfl, HT6, _, _, _, _, HD6⟩
end Go.Proofs.YtdjbejlbmaiocagGreatDoor
/-
  WALKS: slices.Grow of nothing, slices.Concat of rows of numbers.
-/
namespace Go.Proofs.YtdjbejlbmaiocagGreatDoor
open Go.RowKit Go.Lib

theorem heap_alloc_new9 (w : World) (o : Obj) : (w.alloc o).heap[w.heap.size]? = some o := by
  show (w.heap.push o)[w.heap.size]? = some o
  simp
theorem wpList_append_run {P : Program} {w : World} {ops : Array Oper} {rest : List Oper} {o : Oper} {a : Act} {Q : Exit → Act → World → Prop} (hgd : o.guard = none) (s x : Operand) (t1 t2 : TypeId)
    (ho : o.op = .call { callee := .builtin .append, args := #[s, x], argTypes := #[t1, t2] }) (v u v' : Value) (w' : World) (hs : a.eval s = v) (hx : a.eval x = u)
    (hr : ∀ ty, (Builtin.append_ #[t1, t2] ty #[v, u]).run P w = .ok v' w') (h : wpList P ops Q rest (a.put o.dst v') w') : wpList P ops Q (o :: rest) a w :=
  wpList_plain hgd fun _ hK => by
    unfold Oper.wp execOp
    simp only [ho, resolve, invoke, builtin, Sem.run_bind, Sem.run_pure, Result.andThen_ok, List.map_toArray, List.map_cons, List.map_nil, hs, hx, hr]
    exact hK _ _ h
set_option maxHeartbeats 1600000 in
set_option maxRecDepth 100000 in
theorem grow_nil (n : Nat) (hn : n ≤ 1000) (w : World) :
    Calls Tryz.prog 198 #[.slice none 0 0, .int .i64 n] w fun e w' => ∃ x, e = .returned x ∧ w'.ownsRow w.heap.size 3 1 x 0 [] ∧ Below w.heap.size w w' := by
  obtain ⟨i0, hi, hz0, hz1, hz2⟩ := info_parts Tryz.infoInt0
  by_cases h0 : n = 0
  · subst h0
    go_enter Tryz.func198, Tryz.ntmps198
    go_wp2
    go_ret
    exact ⟨_, rfl, World.ownsRow_nil _ _ _ _, Below.refl _ _⟩
  · have hold : (Builtin.firstCells i0.size 0 (.slice none 0 0)).run Tryz.prog w.drew = .ok ([] : List Value).toArray w.drew := run_firstCells_none w.drew i0.size 0 0 0
    obtain ⟨G, hG⟩ : ∃ G, grownCap w n 0 3 = G := ⟨_, rfl⟩
    have hrz : ∀ ty, (Builtin.append_ #[26, 3] ty #[.slice none 0 0, .int .i64 (n : Int)]).run Tryz.prog w = .ok (.slice (some ⟨w.heap.size, 0, none⟩) n G) (w.drew.alloc (.cells (Builtin.zeroCells (Value.int .i64 0).cells n ++ Builtin.zeroCells (Value.int .i64 0).cells (G - n)) 3)) := fun ty => by
      have hf : Builtin.nextslicecap (0 + n) 0 * i0.bytes ≤ 281474976710656 := growslice_fits (by omega) (by rw [hz2]; omega)
      have h := Lib.run_append_grow_zeros w 26 3 ty 3 i0 (.int .i64 0) .i64 .i64 Tryz.underlying26 Tryz.underlying3 hi hz0 none 0 0 [] hold n (by omega) (by omega) (by omega) (by omega) (by rw [hz2]; omega) hf
      rw [Nat.zero_add, hG] at h
      simpa using h
    have hGn : n ≤ G := by rw [← hG]; exact grownCap_ge w _ _ _
    have hG63 : G ≤ maxLen := by rw [← hG]; exact grownCap_le_maxLen w _ 0 _ (by unfold maxLen; omega)
    have h1 : ¬ ((n : Int) < 0) := by omega
    have h2 : (n : Int) > 0 := by omega
    have h3 : ¬ n = 0 := h0
    have HO : Hid ((w.drew.alloc (.cells (Builtin.zeroCells (Value.int .i64 0).cells n ++ Builtin.zeroCells (Value.int .i64 0).cells (G - n)) 3)).ownsRow w.heap.size 3 1 (.slice (some ⟨w.heap.size, 0, none⟩) 0 G) 0 []) := by
      refine ⟨rfl, .inr ⟨w.heap.size, G, _, rfl, Nat.le_refl _, heap_alloc_new9 _ _, Nat.zero_le _, hG63, ?_, by simp⟩⟩
      simp [Builtin.zeroCells, Value.cells]
      omega
    have hG64 : G ≤ 9223372036854775807 := by unfold maxLen at hG63; exact hG63
    clear hold hG hG63
    go_enter Tryz.func198, Tryz.ntmps198
    go_wp2_with (at_builtin; refine wpList_append_run rfl _ _ _ _ rfl _ _ _ _ rfl rfl hrz ?_)
    go_ret
    exact ⟨_, rfl, HO.out, (Below.refl _ _).drew.alloc (Nat.le_refl _) _⟩

theorem flat_step (s : Sto) (k : Nat) (x : List Int) (h : s[k]? = some x) : (s.take (k + 1)).flatten = (s.take k).flatten ++ x := by
  rw [List.take_add_one, h]; simp
theorem flat_len9 (s : Sto) (hs : s.length ≤ 6) (hr : ∀ r ∈ s, r.length ≤ 100) (k : Nat) : (s.take k).flatten.length ≤ 600 := by
  have : ∀ (l : Sto), (∀ r ∈ l, r.length ≤ 100) → l.flatten.length ≤ 100 * l.length := by
    intro l
    induction l with
    | nil => intro _; simp
    | cons x r ih =>
      intro h
      rw [List.flatten_cons, List.length_append, List.length_cons]
      have := ih fun y hy => h y (List.mem_cons_of_mem _ hy)
      have := h x (List.mem_cons_self ..)
      omega
  have h1 := this (s.take k) fun r hr2 => hr r (List.mem_of_mem_take hr2)
  have : (s.take k).length ≤ 6 := by rw [List.length_take]; omega
  omega

set_option maxHeartbeats 1600000 in
set_option maxRecDepth 100000 in
theorem concat_any (s : Sto) (hs : s.length ≤ 6) (hr6 : ∀ r ∈ s, r.length ≤ 100) (v : Value) (w : World) (hv : RArg w v s) :
    Calls Tryz.prog 136 #[v] w fun e w' => ∃ x, e = .returned x ∧ w'.ownsRow w.heap.size 3 1 x s.flatten.length (s.flatten.map (Value.int .i64)) ∧ Below w.heap.size w w' := by
  have HRA : Hid (∀ Y, Below w.heap.size w Y → RArg Y v s) := fun Y hY => RArg.below hY hv
  obtain ⟨a, c, rfl, hl, hr⟩ := hv
  have HV : Hid (∀ (i : Nat) (r : List Int), s[i]? = some r → ∃ b off x, a = some ⟨b, off, none⟩ ∧ b < w.heap.size ∧ w.cell? ⟨b, off + i, none⟩ = some x ∧ IArg w x r) := hr
  have HR6 : Hid (∀ k, (s.take k).flatten.length ≤ 600) := flat_len9 s hs hr6
  have HFA : Hid ((s.take s.length).flatten = s.flatten) := by show _ = _; rw [List.take_length]
  unfold maxLen at hl
  obtain ⟨hl1, hl⟩ := hl
  clear hr hr6
  go_enter Tryz.func136, Tryz.ntmps136
  go_wp2_with fail
  go_loopw [3, 11] (fun sz i wr => ∃ k : Nat, k ≤ s.length ∧ i = .int .i64 k ∧ sz = .int .i64 ((s.take k).flatten.length : Nat) ∧ wr = w) (fun _ i _ => s.length - (intOf i).toNat)
  case atStart => exact ⟨0, by omega, rfl, rfl, rfl⟩
  case round =>
    obtain ⟨k, hk, rfl, rfl, rfl⟩ := hrel
    by_cases hlt : k < s.length
    · obtain ⟨x, hx⟩ : ∃ x, s[k]? = some x := ⟨s[k], by simp [hlt]⟩
      have HF : Hid ((s.take (k + 1)).flatten.length = (s.take k).flatten.length + x.length) := by show _ = _; rw [flat_step s k x hx, List.length_append]
      have hx1 := HR6.out (k + 1)
      rw [HF.out] at hx1
      obtain ⟨bb, off, y, hax, hlb, hc, a5, c5, rfl, ⟨hm5, hm6⟩, _⟩ := HV.out k x hx
      subst hax
      unfold maxLen at hm6
      obtain ⟨q, hq⟩ : ∃ q, (s.take k).flatten.length = q := ⟨_, rfl⟩
      rw [hq] at HF hx1 ⊢
      clear hx hq
      go_wp2
      go_roundw
      case rel => exact ⟨k + 1, by omega, by go_num, by rw [HF.out]; go_num, trivial⟩
      case measure => simp [intOf]; omega
    · have hks : k = s.length := by omega
      subst hks
      have hx1 := HR6.out s.length
      obtain ⟨q, hq⟩ : ∃ q, (s.take s.length).flatten.length = q := ⟨_, rfl⟩
      rw [hq] at hx1 ⊢
      clear hq hlt hk
      obtain ⟨wo, rfl⟩ : ∃ wo : World, wo = wr := ⟨_, rfl⟩
      go_wp2_with fail
      refine (grow_nil q (by omega) _).mono ?_
      rintro e w1 ⟨x, rfl, hox, hb1⟩
      obtain ⟨ax, cx, rfl⟩ := own_form hox
      have HOX : Hid (w1.ownsRow wo.heap.size 3 1 (.slice ax 0 cx) 0 []) := hox
      have HB1 : Hid (Below wo.heap.size wo w1) := hb1
      clear hox hb1
      go_wp2_with fail
      go_loopw [6, 27] (fun nv i wy => ∃ k : Nat, k ≤ s.length ∧ i = .int .i64 k ∧ wy.ownsRow wo.heap.size 3 1 nv (s.take k).flatten.length ((s.take k).flatten.map (Value.int .i64)) ∧ Below wo.heap.size wo wy) (fun _ i _ => s.length - (intOf i).toNat)
      case atStart => exact ⟨0, by omega, rfl, HOX.out, HB1.out⟩
      case round =>
        obtain ⟨k, hk, rfl, hnv, hbw⟩ := hrel
        obtain ⟨an, cn, rfl⟩ := own_form hnv
        have HNV : Hid (wr.ownsRow wo.heap.size 3 1 (.slice an (s.take k).flatten.length cn) (s.take k).flatten.length ((s.take k).flatten.map (Value.int .i64))) := hnv
        have HBW : Hid (Below wo.heap.size wo wr) := hbw
        have hbs := hbw.size
        clear hnv hbw
        by_cases hlt : k < s.length
        · obtain ⟨x, hx⟩ : ∃ x, s[k]? = some x := ⟨s[k], by simp [hlt]⟩
          have HF : Hid ((s.take (k + 1)).flatten = (s.take k).flatten ++ x) := flat_step s k x hx
          have hx1 := HR6.out (k + 1)
          rw [HF.out, List.length_append] at hx1
          obtain ⟨bb, off, y, hax, hlb, hc0, hix⟩ := HV.out k x hx
          subst hax
          have hc := (HBW.out.cell (p := ⟨bb, off + k, none⟩) hlb).trans hc0
          have HIX : Hid (IArg wr y x) := IArg.below HBW.out hix
          obtain ⟨a5, c5, rfl, ⟨hm5, hm6⟩, _⟩ := hix
          obtain ⟨acc, hacc⟩ : ∃ acc, (s.take k).flatten = acc := ⟨_, rfl⟩
          rw [hacc] at HF hx1 HNV ⊢
          clear hx hacc hc0
          go_wp2_with (at_builtin; refine wpList_append_ints rfl _ _ rfl wo.heap.size _ acc rfl HNV.out _ x rfl HIX.out (by omega) hbs ?_)
          intro v3 w3 hown3 hg3 _
          have HB3 : Hid (Below wo.heap.size wo w3) := HBW.out.grown hg3 hbs (fun k h => (HNV.out.lt k h).1)
          have HO3 : Hid (w3.ownsRow wo.heap.size 3 1 v3 (acc ++ x).length ((acc ++ x).map (Value.int .i64))) := by
            show World.ownsRow _ _ _ _ _ _ _
            rw [List.length_append, List.map_append]; exact hown3
          clear hown3 hg3
          go_wp2
          go_roundw
          case rel => exact ⟨k + 1, by omega, by go_num, by rw [HF.out]; exact HO3.out, HB3.out⟩
          case measure => simp [intOf]; omega
        · have hks : k = s.length := by omega
          subst hks
          rw [HFA.out] at HNV ⊢
          go_wp2
          go_ret
          exact ⟨_, rfl, HNV.out, HBW.out⟩
end Go.Proofs.YtdjbejlbmaiocagGreatDoor
/-
  WALK: package seek: Next.
-/
namespace Go.Proofs.YtdjbejlbmaiocagGreatDoor
open Go.RowKit Go.Maps

theorem least_ex {p : Nat → Prop} (h : ∃ n, p n) : ∃ n, p n ∧ ∀ m, p m → n ≤ m := by
  obtain ⟨n, hn⟩ := h
  have : ∀ (k n : Nat), n ≤ k → p n → ∃ n, p n ∧ ∀ m, p m → n ≤ m := by
    intro k
    induction k with
    | zero => intro n hk hn; exact ⟨n, hn, fun m _ => by omega⟩
    | succ k ih =>
      intro n hk hn
      by_cases h : ∃ m, p m ∧ m < n
      · obtain ⟨m, hm, hlt⟩ := h
        exact ih m (by omega) hm
      · refine ⟨n, hn, fun m hm => ?_⟩
        apply Classical.byContradiction
        intro hl
        exact h ⟨m, hm, by omega⟩
  exact this n n (Nat.le_refl _) hn
open Classical in
noncomputable def leastOf (p : Nat → Prop) : Nat := if h : ∃ n, p n then Classical.choose (least_ex h) else 0
theorem leastOf_spec {p : Nat → Prop} (h : ∃ n, p n) : p (leastOf p) := by
  unfold leastOf
  rw [dif_pos h]
  exact (Classical.choose_spec (least_ex h)).1
theorem leastOf_le {p : Nat → Prop} {n : Nat} (h : p n) : leastOf p ≤ n := by
  have he : ∃ n, p n := ⟨n, h⟩
  unfold leastOf
  rw [dif_pos he]
  exact (Classical.choose_spec (least_ex he)).2 n h

structure SkO (vs : List MVar) (S : Sk) : Prop where
  prf : S.proof.length ≤ 6000
  cs : S.cs.length + S.fuel ≤ 1000
  path : PathOk vs S.path
theorem turn_ok (vs : List MVar) (pt : List (List Nat)) (S : Sk) (h : SkO vs S) (h0 : (turnP vs pt S).1 = 0) : SkO vs (turnP vs pt S).2 := by
  unfold turnP at h0 ⊢
  split
  · rename_i hc; rw [if_pos hc] at h0; cases h0
  · rename_i hc0
    rw [if_neg hc0] at h0
    split
    · rename_i hc; rw [if_pos hc] at h0; cases h0
    · rename_i hc1
      rw [if_neg hc1] at h0
      split
      · rename_i hc; rw [if_pos hc] at h0; cases h0
      · refine ⟨by simp only; omega, ?_, path_take vs _ h.path _⟩
        have := h.cs
        simp only [List.length_append, List.length_singleton]
        omega
theorem dec_ok (vs : List MVar) (hv : VarsOk vs) (pt : List (List Nat)) (S : Sk) (h : SkO vs S) (hf : ¬ fewestP (storeP vs (leftSk vs pt S)) < 0) : SkO vs (decSk (storeP vs (leftSk vs pt S)) S) :=
  ⟨h.prf, h.cs, path_dec vs hv pt S h.path hf⟩
def NxI (W w : World) (s r mb : Nat) (sv pv : Value) (vs : List MVar) (pt : List (List Nat)) (R : Int × List Int × Sk) (wr : World) (n : Nat) : Prop :=
  ∃ (S : Sk) (cv prv pav : Value) (L : List SV), openSk vs S = n ∧ nextP vs pt S = R ∧ SkO vs S ∧ SkD W wr s r mb sv pv cv prv pav L (S.proof.map fun x => heldP vs x.cla) S ∧ TFr w wr

set_option maxHeartbeats 6400000 in
set_option maxRecDepth 100000 in
theorem snext_any (vs : List MVar) (hva : VarsAll vs) (hn1 : 1 ≤ vs.length) (pt : List (List Nat)) (W : World) (s r mb : Nat) (sv pv cv prv pav : Value) (hB : SkB W s r mb sv pv vs pt) (L : List SV) (S : Sk) (hS : SkO vs S) (w : World)
    (hD : SkD W w s r mb sv pv cv prv pav L (S.proof.map fun x => heldP vs x.cla) S) :
    Calls Tryz.prog 73 #[.pointer (some ⟨s, 0, none⟩)] w fun e w' => ∃ x, e = .returned (.tuple #[.int .i64 (nextP vs pt S).1, x]) ∧ w'.ownsRow w.heap.size 3 1 x (nextP vs pt S).2.1.length ((nextP vs pt S).2.1.map (Value.int .i64)) ∧ TFr w w' ∧
      ∃ cv' prv' pav' L', SkD W w' s r mb sv pv cv' prv' pav' L' ((nextP vs pt S).2.2.proof.map fun x => heldP vs x.cla) (nextP vs pt S).2.2 := by
  obtain ⟨R, hR⟩ : ∃ R, nextP vs pt S = R := ⟨_, rfl⟩
  rw [hR]
  obtain ⟨i0, hi0, hz0, hz1, hz2⟩ := info_parts Tryz.infoLit
  have HVO : Hid (VarsAll vs) := hva
  have HSB : Hid (SkB W s r mb sv pv vs pt) := hB
  have HI : Hid (∃ n, NxI W w s r mb sv pv vs pt R w n) := ⟨_, S, cv, prv, pav, L, rfl, hR, hS, hD, TFr.refl _⟩
  obtain ⟨asv, csv, hsv⟩ : ∃ a c, sv = .slice a vs.length c := by obtain ⟨a, c, h, _⟩ := (hB.keep w hD.fr).1; exact ⟨a, c, h⟩
  subst hsv
  clear hD hB hva hR hS
  go_enter Tryz.func73, Tryz.ntmps73
  go_wp2_with fail
  go_loopw [] (fun wr => ∃ n, NxI W w s r mb (.slice asv vs.length csv) pv vs pt R wr n) (fun wr => leastOf (NxI W w s r mb (.slice asv vs.length csv) pv vs pt R wr))
  case atStart => exact HI.out
  case round =>
    have hsp := leastOf_spec hrel
    obtain ⟨N, hN⟩ : ∃ N, leastOf (NxI W w s r mb (.slice asv vs.length csv) pv vs pt R wr) = N := ⟨_, rfl⟩
    have HN : Hid (leastOf (NxI W w s r mb (.slice asv vs.length csv) pv vs pt R wr) = N) := hN
    rw [hN] at hsp
    clear hrel HI hN
    obtain ⟨S', cv', prv', pav', L', hop, hnx, hok, hd, htf⟩ := hsp
    have HOP : Hid (openSk vs S' = N) := hop
    have HNX : Hid (nextP vs pt S' = R) := hnx
    have HOK : Hid (SkO vs S') := hok
    have HD : Hid (SkD W wr s r mb (.slice asv vs.length csv) pv cv' prv' pav' L' (S'.proof.map fun x => heldP vs x.cla) S') := hd
    have HTF : Hid (TFr w wr) := htf
    obtain ⟨apa, cpa, rfl⟩ := own_form hd.path
    obtain ⟨s0, s1, s2, s3, s4, s5, s6⟩ := hd.cells
    have hp36 := path_len vs _ hok.path
    obtain ⟨l, hl⟩ : ∃ l, leftSk vs pt S' = l := ⟨_, rfl⟩
    have HL : Hid (leftSk vs pt S' = l) := hl
    have HLE : Hid (∀ Z, Below wr.heap.size wr Z → Calls Tryz.prog 132 #[.pointer (some ⟨r, 0, none⟩), .slice apa S'.path.length cpa] Z fun e w' => e = .returned (.int .u64 (l : Int)) ∧ Below Z.heap.size Z w') := fun Z hZ => by
      rw [← hl]
      exact rleft_any vs HVO.out hn1 S'.cs pt S'.path r _ pv cv' _ Z ((hd.below hZ).rules HSB.out) (LOwn.arg (hd.below hZ).path)
    have hst := next_step vs HVO.out.1 pt S'
    rw [hnx, hl] at hst
    have hwl : ∀ i, l.testBit i = true → (wholeP vs).testBit i = true := fun i hi => by rw [← hl] at hi; exact (narrow_sub vs HVO.out.1 _ _ _ i hi).1
    have HWL : Hid (∀ i, l.testBit i = true → (wholeP vs).testBit i = true) := hwl
    have HST := (show Hid _ from hst)
    clear hop hnx hok hd htf hl hst hwl
    go_wp2_with fail
    go_region_law
      (first
        | (rw [if_pos (by rfl)]; go_simp; go_at_call 132; refine (HLE.out _ (Below.refl _ _).drew).mono ?_; rintro e w2 ⟨rfl, hb2⟩; have hB2 : Below wr.heap.size wr w2 := (Below.refl _ _).drew.trans hb2; dsimp only))
    all_goals
      have HD2 := (show Hid _ from HD.out.below hB2)
      have HT2 : Hid (TFr w w2) := HTF.out.trans (TFr.below hB2)
      clear hb2 hB2 s0 s1 s2 s3 s4 s5 s6 HD HTF
      obtain ⟨s0, s1, s2, s3, s4, s5, s6⟩ := HD2.out.cells
      by_cases hl0 : l = 0
      · have hst := HST.out
        rw [if_pos hl0] at hst
        subst hl0
        go_wp2_with fail
        refine (turn_any vs HVO.out hn1 pt W s r mb _ pv _ _ _ HSB.out L' S' HOK.out.prf HOK.out.cs hp36 HL.out w2 HD2.out).mono ?_
        rintro e w3 ⟨rfl, ht3, cv3, prv3, pav3, L3, hd3⟩
        have HT3 : Hid (TFr w w3) := HT2.out.trans ht3
        clear ht3
        by_cases hv : (turnP vs pt S').1 = 0
        · rw [if_pos hv] at hst
          have HNI : Hid (NxI W w s r mb (.slice asv vs.length csv) pv vs pt R w3 (openSk vs (turnP vs pt S').2)) := ⟨_, cv3, prv3, pav3, L3, rfl, hst.symm, turn_ok vs pt S' HOK.out hv, hd3, HT3.out⟩
          have HLT : Hid (openSk vs (turnP vs pt S').2 < N) := by rw [← HOP.out]; exact turn_open vs pt S' hv
          rw [hv]
          clear hst hv hd3 HST HLE
          go_wp2
          go_roundw
          case rel => exact ⟨_, HNI.out⟩
          case measure => exact Nat.lt_of_le_of_lt (leastOf_le HNI.out) (by rw [HN.out]; exact HLT.out)
        · rw [if_neg hv] at hst
          have HST2 : Hid (R = ((turnP vs pt S').1, [], (turnP vs pt S').2)) := hst
          have HD3 := (show Hid _ from hd3)
          obtain ⟨vd, hvd⟩ : ∃ vd, (turnP vs pt S').1 = vd := ⟨_, rfl⟩
          have HVD : Hid ((turnP vs pt S').1 = vd) := hvd
          rw [hvd] at hv ⊢
          have hv' : (vd != 0) = true := by simpa using hv
          clear hst hd3 hvd HST HLE
          go_wp2
          go_ret2
          rw [HST2.out, HVD.out]
          exact ⟨_, rfl, World.ownsRow_nil _ _ _ _, HT3.out, _, _, _, _, HD3.out⟩
      · have hst := HST.out
        rw [if_neg hl0] at hst
        have hl0' : ((l : Int) == 0) = false := by simpa using hl0
        obtain ⟨st, hstp⟩ : ∃ st, storeP vs l = st := ⟨_, rfl⟩
        have HSTP : Hid (storeP vs l = st) := hstp
        rw [hstp] at hst
        have hstl : st.length ≤ 6 := by rw [← hstp, storeP_len]; exact HVO.out.1.1
        have HSR : Hid (∀ r ∈ st, r.length ≤ 100) := fun r hr => by
          obtain ⟨i, hi⟩ := List.mem_iff_getElem?.1 hr
          have h1 := storeF_small (litsP vs l) (List.replicate vs.length []) i
          have h2 : (storeF (litsP vs l) (List.replicate vs.length [])).getD i [] = r := by
            have : storeF (litsP vs l) (List.replicate vs.length []) = st := hstp
            rw [this, List.getD_eq_getElem?_getD, hi]; rfl
          rw [h2] at h1
          have h3 := lits_len vs l
          have h4 : ((List.replicate vs.length ([] : List Int)).getD i []).length = 0 := by
            rw [List.getD_eq_getElem?_getD, List.getElem?_replicate]
            split <;> rfl
          omega
        clear hstp
        go_wp2_with fail
        refine (fstore_any vs HVO.out l HWL.out _ w2 (HSB.out.keep _ HD2.out.fr).1 (HSB.out.keep _ HD2.out.fr).2.2).mono ?_
        rintro e w3 ⟨B, cells, rfl, hg3, hBs, hb3⟩
        rw [HSTP.out] at hg3
        have HG3 : Hid (GRows w3 B vs.length cells st) := hg3
        have HD3 := (show Hid _ from HD2.out.below hb3)
        have HT3 : Hid (TFr w w3) := HT2.out.trans (TFr.below hb3)
        clear hb3 s0 s1 s2 s3 s4 s5 s6 HD2 HT2 HLE
        obtain ⟨s0, s1, s2, s3, s4, s5, s6⟩ := HD3.out.cells
        go_wp2_with fail
        refine (fewest_any st hstl _ w3 HG3.out.rarg).mono ?_
        rintro e w4 ⟨rfl, rfl⟩
        obtain ⟨ff, hff⟩ : ∃ ff, fewestP st = ff := ⟨_, rfl⟩
        have HFF : Hid (fewestP st = ff) := hff
        rw [hff] at hst ⊢
        by_cases hf0 : ff < 0
        · rw [if_pos hf0] at hst
          have HST2 : Hid (R = (1, st.flatten, S')) := hst
          clear hst hff hg3
          go_wp2_with fail
          refine (concat_any st hstl HSR.out _ w4 HG3.out.rarg).mono ?_
          rintro e w5 ⟨x, rfl, hox, hb5⟩
          have HO5 : Hid (w5.ownsRow w4.heap.size 3 1 x st.flatten.length (st.flatten.map (Value.int .i64))) := hox
          have HD5 := (show Hid _ from HD3.out.below hb5)
          have HT5 : Hid (TFr w w5) := HT3.out.trans (TFr.below hb5)
          have HLE4 : Hid (w.heap.size ≤ w4.heap.size) := HT3.out.size
          clear hox hb5
          go_wp2
          go_ret2
          rw [HST2.out]
          exact ⟨_, rfl, World.ownsRow.mono HO5.out HLE4.out, HT5.out, _, _, _, _, HD5.out⟩
        · rw [if_neg hf0] at hst
          obtain ⟨hfs, hfl⟩ := fewest_some st (by rw [hff]; exact hf0)
          rw [hff] at hfs hfl
          obtain ⟨v, rfl⟩ : ∃ v : Nat, ff = (v : Int) := ⟨ff.toNat, by omega⟩
          rw [Int.toNat_natCast] at hfl
          have hvl : v < st.length := by omega
          obtain ⟨row, hrow⟩ : ∃ row, st[v]? = some row := ⟨st[v], by rw [List.getElem?_eq_getElem hvl]⟩
          rw [List.getD_eq_getElem?_getD, hrow] at hfl
          simp only [Option.getD_some] at hfl
          obtain ⟨htop, hlen, hrws, _⟩ := hg3
          obtain ⟨xr, hxr, hoxr⟩ := hrws v row hrow
          obtain ⟨axr, cxr, rfl⟩ := own_form hoxr
          obtain ⟨gx, hgx⟩ : ∃ gx, axr = some ⟨gx, 0, none⟩ := by
            rcases hoxr.2 with ⟨_, hn⟩ | ⟨g, cap, cur, he, _⟩
            · omega
            · cases he; exact ⟨g, rfl⟩
          subst hgx
          obtain ⟨x0, hx0⟩ : ∃ x0, row[0]? = some x0 := ⟨row[0], by rw [List.getElem?_eq_getElem (by omega)]⟩
          have cB : w4.cell? ⟨B, v, none⟩ = some (.slice (some ⟨gx, 0, none⟩) row.length cxr) := by rw [htop.cellAt v (by omega)]; exact hxr
          have lB : B < w4.heap.size := (htop.lt B rfl).2
          have cX : w4.cell? ⟨gx, 0, none⟩ = some (.int .i64 x0) := by rw [hoxr.cellAt 0 (by omega), List.getElem?_map, hx0]; rfl
          have lX : gx < w4.heap.size := (hoxr.lt gx rfl).2
          have HPK : Hid (pickL st = ⟨(v : Int), 4, x0⟩) := by
            show _ = _
            unfold pickL
            have hgd : st.getD v [] = row := by rw [List.getD_eq_getElem?_getD, hrow]; rfl
            rw [hff, Int.toNat_natCast, hgd, List.getD_eq_getElem?_getD, hx0]; rfl
          have HST2 : Hid (R = nextP vs pt (decSk st S')) := hst
          have HOK2 : Hid (SkO vs (decSk st S')) := by rw [← HSTP.out, ← HL.out]; exact dec_ok vs HVO.out.1 pt S' HOK.out (by rw [HL.out, HSTP.out, hff]; exact hf0)
          have HOP2 : Hid (openSk vs (decSk st S') < N) := by rw [← HOP.out, ← HSTP.out, ← HL.out]; exact dec_open vs HVO.out.1 pt S' (by rw [HL.out, HSTP.out, hff]; exact hf0)
          have hvn : v < vs.length := by omega
          have hvn' : (v : Int) < (vs.length : Int) := by omega
          have hr1 : 0 < row.length := by omega
          have hr2 : (0 : Int) < (row.length : Int) := by omega
          have hr3 : ¬ row = [] := fun h => by rw [h] at hr1; cases hr1
          have hWs : W.heap.size ≤ w4.heap.size := HD3.out.fr.size
          have hopa : w4.ownsRow W.heap.size 88 3 (.slice apa S'.path.length cpa) S'.path.length (litsCs S'.path) := HD3.out.path
          have hf1 : ¬ ((v : Int) < 0) := by omega
          clear hst hff hrow hxr hx0 hoxr htop hrws hlen hfs hfl hvl HST hstl
          go_wp2_with fail
          go_region_law
            (first
              | (rw [if_pos (by rfl)]; refine wp_append_own_at _ _ _ 38 rfl W.heap.size 88 i0 _ 3 24 Tryz.underClauseE hi0 hz0 hz1 hz2 rfl (by decide) _ _ _ rfl (hopa.drew.alloc _) ⟨w4.heap.size, 0, none⟩ 1 1 (litCs ⟨(v : Int), 4, x0⟩) rfl rfl (lit_laid w4.drew ⟨(v : Int), 4, x0⟩) (by intro u hu; simp [litCs] at hu; rcases hu with rfl | rfl | rfl <;> rfl) ?_ ?_ ?_ ?_; (unfold maxLen; omega); omega; (simp; omega); intro v7 w7 hown7 hg7 hat7; obtain ⟨a7, c7, hv7⟩ := own_form hown7; subst hv7
                 have hbl7 := blk_grown (HD3.out.below ((Below.refl _ _).drew.alloc (Nat.le_refl _) _)).blkS hg7 (hopa.drew.alloc _) (by decide)
                 have t5 : w7.cell? ⟨s, 5, none⟩ = some (.slice apa S'.path.length cpa) := blk9 hbl7 5 _ rfl
                 have z5 : w7.frozen? ⟨s, 5, none⟩ = false := frz9 hbl7 5
                 have l5 : s < w7.heap.size := (Array.getElem?_eq_some_iff.1 hbl7).1))
          all_goals
            have HNI : Hid (NxI W w s r mb (.slice asv vs.length csv) pv vs pt R (w7.setCell ⟨s, 5, none⟩ (.slice a7 (S'.path.length + 1) c7)) (openSk vs (decSk st S'))) := by
              have hb5 : Below w4.heap.size w4 (w4.drew.alloc (.cells #[.int .i64 (v : Int), .int .i64 4, .int .i64 x0] 88)) := (Below.refl _ _).drew.alloc (Nat.le_refl _) _
              have hpush := HD3.out.pushp (l := ⟨(v : Int), 4, x0⟩) hb5 hg7 hat7 rfl hown7
              have hsk : SkD W (w7.setCell ⟨s, 5, none⟩ (.slice a7 (S'.path.length + 1) c7)) s r mb (.slice asv vs.length csv) pv cv' prv' (.slice a7 (S'.path.length + 1) c7) L' ((decSk st S').proof.map fun x => heldP vs x.cla) (decSk st S') := by
                unfold decSk
                rw [HPK.out]
                exact hpush
              exact ⟨decSk st S', _, _, _, L', rfl, HST2.out.symm, HOK2.out, hsk, ((HT3.out.trans (TFr.below hb5)).trans (TFr.grown (hopa.drew.alloc _) hg7 tno_lit)).trans (TFr.set hbl7 tno_sek 5 _)⟩
            go_wp2
            go_roundw
            case rel => exact ⟨_, HNI.out⟩
            case measure => exact Nat.lt_of_le_of_lt (leastOf_le HNI.out) (by rw [HN.out]; exact HOP2.out)
end Go.Proofs.YtdjbejlbmaiocagGreatDoor
/-
  WALK: package follow: Of.
-/
namespace Go.Proofs.YtdjbejlbmaiocagGreatDoor
open Go.RowKit

theorem ptsM_lt (m : Mod) (hm : checkM m = 0) : ∀ pts ∈ ptsM m, ∀ z ∈ pts, z < 2 ^ 36 := by
  intro pts hp
  obtain ⟨c, hcm, rfl⟩ := List.mem_map.1 hp
  obtain ⟨j, hj⟩ := List.mem_iff_getElem?.1 hcm
  exact pointsP_lt m hm j c hj
theorem rul_of {w W : World} {r : Nat} {sv pv : Value} {vs : List MVar} {pt : List (List Nat)} (hr : w.heap.size ≤ r) (hrW : r < W.heap.size) (hb : Below w.heap.size w W) (hv : VArg w sv vs) (hT : TabT w) (hp : PRow (r + 1) W pv pt) (hl : ∀ pts ∈ pt, ∀ z ∈ pts, z < 2 ^ 36) : Rul W r sv pv vs pt := by
  refine ⟨hrW, fun w' hf => ?_⟩
  have hb2 : Below w.heap.size w w' := ⟨hf.os.trans hb.os, hf.tape.trans hb.tape, hf.output.trans hb.output, Nat.le_trans hb.size hf.size, fun k hk => (hf.block k (Nat.lt_of_lt_of_le hk hb.size) (by omega)).trans (hb.block k hk)⟩
  exact ⟨VArg.below hb2 hv, (hp.fr hf (fun g hg => by omega)).arg hl, hT.below hb2⟩

set_option maxHeartbeats 3200000 in
set_option maxRecDepth 100000 in
theorem of_rules0 (m : Mod) (hm : checkM m = 0) (vs cs : Value) (w : World) (hma : MArg w vs cs m) (hT : TabT w) :
    Calls Tryz.prog 87 #[modV vs cs m] w fun e w' => ∃ r pv, e = .returned (.pointer (some ⟨r, 0, none⟩)) ∧ Rul w' r vs pv m.vars (ptsM m) ∧ RulD w' w' r vs pv (.slice none 0 0) [] ∧ w.heap.size ≤ r ∧ Below w.heap.size w w' ∧ PRow (r + 1) w' pv (ptsM m) := by
  obtain ⟨i0, hi0, hz0, hz1, hz2⟩ := info_parts Tryz.infoPts
  have HMA : Hid (∀ w', Below w.heap.size w w' → MArg w' vs cs m) := fun w' h => MArg.below h hma
  have HVW : Hid (VArg w vs m.vars) := hma.1
  have HT : Hid (TabT w) := hT
  have HM : Hid (checkM m = 0) := hm
  have h8 : m.cons.length ≤ 8 := (checkM_vars m hm).2.2.1
  obtain ⟨⟨a1, c1, rfl, _, _⟩, ⟨a2, c2, rfl, _, _⟩⟩ := hma
  unfold modV
  obtain ⟨L, hL⟩ : ∃ L, ptsM m = L := ⟨_, rfl⟩
  have HL : Hid (ptsM m = L) := hL
  have HLL : Hid (L.length = m.cons.length) := by show _ = _; rw [← hL]; unfold ptsM; rw [List.length_map]
  rw [hL]
  clear hL
  clear hm hT
  go_enter Tryz.func87, Tryz.ntmps87
  go_wp2_with fail
  have HB0 : Hid (Below w.heap.size w ((w.alloc (.cells #[.slice a1 m.vars.length c1, .slice a2 m.cons.length c2, .int .i64 m.goal, .int .i64 m.var] 25)).alloc (.cells #[.slice a1 m.vars.length c1, .slice none 0 0, .slice none 0 0] 204))) := (below_alloc _ _).alloc (by simp) _
  have HQ : Hid (((w.alloc (.cells #[.slice a1 m.vars.length c1, .slice a2 m.cons.length c2, .int .i64 m.goal, .int .i64 m.var] 25)).alloc (.cells #[.slice a1 m.vars.length c1, .slice none 0 0, .slice none 0 0] 204)).heap[w.heap.size]? = some (.cells #[.slice a1 m.vars.length c1, .slice a2 m.cons.length c2, .int .i64 m.goal, .int .i64 m.var] 25)) := ((below_alloc (w.alloc (.cells #[.slice a1 m.vars.length c1, .slice a2 m.cons.length c2, .int .i64 m.goal, .int .i64 m.var] 25)) (.cells #[.slice a1 m.vars.length c1, .slice none 0 0, .slice none 0 0] 204)).block w.heap.size (by simp)).trans (heap_alloc_new w _)
  have HBK : Hid (((w.alloc (.cells #[.slice a1 m.vars.length c1, .slice a2 m.cons.length c2, .int .i64 m.goal, .int .i64 m.var] 25)).alloc (.cells #[.slice a1 m.vars.length c1, .slice none 0 0, .slice none 0 0] 204)).heap[w.heap.size + 1]? = some (.cells #[.slice a1 m.vars.length c1, .slice none 0 0, .slice none 0 0] 204)) := by
    have h := heap_alloc_new (w.alloc (.cells #[.slice a1 m.vars.length c1, .slice a2 m.cons.length c2, .int .i64 m.goal, .int .i64 m.var] 25)) (.cells #[.slice a1 m.vars.length c1, .slice none 0 0, .slice none 0 0] 204)
    rw [World.size_alloc] at h
    exact h
  have HS0 : Hid (((w.alloc (.cells #[.slice a1 m.vars.length c1, .slice a2 m.cons.length c2, .int .i64 m.goal, .int .i64 m.var] 25)).alloc (.cells #[.slice a1 m.vars.length c1, .slice none 0 0, .slice none 0 0] 204)).heap.size = w.heap.size + 2) := by show _ = _; simp
  obtain ⟨W, hW⟩ : ∃ W, ((w.alloc (.cells #[.slice a1 m.vars.length c1, .slice a2 m.cons.length c2, .int .i64 m.goal, .int .i64 m.var] 25)).alloc (.cells #[.slice a1 m.vars.length c1, .slice none 0 0, .slice none 0 0] 204)) = W := ⟨_, rfl⟩
  rw [hW] at HB0 HQ HBK HS0 ⊢
  clear hW
  go_loopw [12] (fun i wr => ∃ (k : Nat) (pv : Value), k ≤ m.cons.length ∧ i = .int .i64 k ∧ Hid (PRow (w.heap.size + 2) wr pv (L.take k)) ∧ Hid (wr.heap[w.heap.size + 1]? = some (.cells #[.slice a1 m.vars.length c1, pv, .slice none 0 0] 204)) ∧ Hid (Below (w.heap.size + 1) W wr)) (fun i _ => m.cons.length - (intOf i).toNat)
  case atStart => exact ⟨0, .slice none 0 0, by omega, rfl, ⟨[], World.ownsRow_nil _ _ _ _, fun i pts h => by simp at h⟩, HBK, Below.refl _ _⟩
  case round =>
    obtain ⟨k, pv, hk, rfl, HROW, HBLK, HBW⟩ := hrel
    have HBN : Hid (Below w.heap.size w wr) := HB0.out.trans (HBW.out.mono (by omega))
    have HSZ : Hid (w.heap.size + 2 ≤ wr.heap.size) := by have := HBW.out.size; have := HS0.out; show _ ≤ _; omega
    have HMB : Hid (wr.heap[w.heap.size]? = some (.cells #[.slice a1 m.vars.length c1, .slice a2 m.cons.length c2, .int .i64 m.goal, .int .i64 m.var] 25)) := (HBW.out.block w.heap.size (by omega)).trans HQ.out
    have k0 : wr.cell? ⟨w.heap.size, 0, none⟩ = some (.slice a1 m.vars.length c1) := blk9 HMB.out 0 _ rfl
    have k1 : wr.cell? ⟨w.heap.size, 1, none⟩ = some (.slice a2 m.cons.length c2) := blk9 HMB.out 1 _ rfl
    have k2 : wr.cell? ⟨w.heap.size, 2, none⟩ = some (.int .i64 m.goal) := blk9 HMB.out 2 _ rfl
    have k3 : wr.cell? ⟨w.heap.size, 3, none⟩ = some (.int .i64 m.var) := blk9 HMB.out 3 _ rfl
    obtain ⟨cells, hcw, hrows⟩ := HROW.out
    have HCW : Hid (wr.ownsRow (w.heap.size + 2) 180 1 pv (L.take k).length cells) := hcw
    have HRW : Hid (∀ (i : Nat) (p : List Nat), (L.take k)[i]? = some p → ∃ x, cells[i]? = some x ∧ wr.ownsRow (w.heap.size + 2) 183 1 x p.length (u64s p)) := hrows
    obtain ⟨ap, cp, hpv⟩ := own_form hcw
    have HTL : Hid ((L.take k).length = k) := by show _ = _; rw [List.length_take, HLL.out]; omega
    rw [HTL.out] at hpv HCW
    subst hpv
    have g1 : wr.cell? ⟨w.heap.size + 1, 1, none⟩ = some (.slice ap k cp) := blk9 HBLK.out 1 _ rfl
    have lr : w.heap.size < wr.heap.size := by have := HSZ.out; omega
    have lr1 : w.heap.size + 1 < wr.heap.size := by have := HSZ.out; omega
    clear hcw hrows
    by_cases hlt : k < m.cons.length
    · obtain ⟨c, hc⟩ : ∃ c, m.cons[k]? = some c := ⟨m.cons[k], by simp [hlt]⟩
      have HLK : Hid (L[k]? = some (pointsP m.vars c)) := by show _ = _; rw [← HL.out]; unfold ptsM; rw [List.getElem?_map, hc]; rfl
      have HPT : Hid (∀ Y, Below wr.heap.size wr Y → Calls Tryz.prog 127 #[.agg #[.slice a1 m.vars.length c1, .slice a2 m.cons.length c2, .int .i64 m.goal, .int .i64 m.var], .int .i64 (k : Int)] Y fun e w' => ∃ x, e = .returned x ∧ w'.ownsRow Y.heap.size 183 1 x (pointsP m.vars c).length (u64s (pointsP m.vars c)) ∧ Below Y.heap.size Y w') := fun Y hY =>
        points_own m k c _ _ Y HM.out hc (HMA.out _ (HBN.out.trans (hY.mono HBN.out.size)))
      have HTN : Hid (L.take (k + 1) = L.take k ++ [pointsP m.vars c]) := by show _ = _; rw [List.take_add_one, HLK.out]; rfl
      obtain ⟨pts, hpts⟩ : ∃ pts, pointsP m.vars c = pts := ⟨_, rfl⟩
      rw [hpts] at HPT HTN
      clear hc hpts
      go_wp2_with fail
      go_region_law
        (first
          | (rw [if_pos (by rfl)]; refine wp_append_own _ _ _ 198 rfl (w.heap.size + 2) 180 i0 _ 1 24 Tryz.underPts hi0 hz0 hz1 hz2 rfl (by decide) _ _ _ rfl (hw3.alloc _) ⟨w3.heap.size, 0, none⟩ 1 1 [.slice ax pts.length cx] rfl rfl (pts_laid w3 (.slice ax pts.length cx)) (by intro u hu; simp at hu; subst hu; rfl) ?_ ?_ ?_ ?_; (unfold maxLen; omega); omega; (have := hB3.size; have := HSZ.out; simp; omega); intro v4 w4 hown4 hg4 _; have hP : PRow (w.heap.size + 2) w4 v4 (L.take k ++ [pts]) := PRow.push (by rw [HTL.out]; exact hw3.alloc _) (fun i p hi => (hr3 i p hi).imp fun y hy => ⟨hy.1, hy.2.alloc _⟩) (hx3.alloc _) hg4 (by rw [HTL.out]) hown4; obtain ⟨a9, b9, hv9⟩ := own_form hown4; subst hv9; have hk4 := blk_grown (((below_alloc w3 _).block (w.heap.size + 1) l3).trans hbk3) hg4 (hw3.alloc _) (by decide); have d2 : w4.cell? ⟨w.heap.size + 1, 1, none⟩ = some (.slice ap k cp) := blk9 hk4 1 _ rfl; have z2 : w4.frozen? ⟨w.heap.size + 1, 1, none⟩ = false := frz9 hk4 1)
          | (rw [if_pos (by rfl)]; go_simp; go_at_call 127; refine (HPT.out _ (Below.refl _ _).drew).mono ?_; rintro e w3 ⟨x, rfl, hx, hb3⟩; obtain ⟨ax, cx, rfl⟩ := own_form hx; have hB3 : Below wr.heap.size wr w3 := (Below.refl _ _).drew.trans hb3; have c3 : w3.cell? ⟨w.heap.size + 1, 1, none⟩ = some (.slice ap k cp) := (hB3.cell (p := ⟨w.heap.size + 1, 1, none⟩) lr1).trans g1; have hw3 : w3.ownsRow (w.heap.size + 2) 180 1 (.slice ap k cp) k cells := own_below HCW.out hB3; have hr3 : ∀ (i : Nat) (p : List Nat), (L.take k)[i]? = some p → ∃ x, cells[i]? = some x ∧ w3.ownsRow (w.heap.size + 2) 183 1 x p.length (u64s p) := fun i p hi => (HRW.out i p hi).imp fun y hy => ⟨hy.1, own_below hy.2 hB3⟩; have hx3 : w3.ownsRow (w.heap.size + 2) 183 1 (.slice ax pts.length cx) pts.length (u64s pts) := World.ownsRow.mono hx HSZ.out; have l3 : w.heap.size + 1 < w3.heap.size := Nat.lt_of_lt_of_le lr1 hB3.size; have hbk3 := (hB3.block (w.heap.size + 1) lr1).trans HBLK.out; dsimp only))
      all_goals
        have HR4 : Hid (PRow (w.heap.size + 2) (w4.setCell ⟨w.heap.size + 1, 1, none⟩ (.slice a9 (k + 1) b9)) (.slice a9 (k + 1) b9) (L.take (k + 1))) := by
          rw [HTN.out]
          exact hP.fr (X := fun g => g = w.heap.size + 1) (Fr.setX (X := fun g => g = w.heap.size + 1) (Fr.refl _ _) (p := ⟨w.heap.size + 1, 1, none⟩) rfl _) (fun g hg => by omega)
        have HK4 : Hid ((w4.setCell ⟨w.heap.size + 1, 1, none⟩ (.slice a9 (k + 1) b9)).heap[w.heap.size + 1]? = some (.cells #[.slice a1 m.vars.length c1, .slice a9 (k + 1) b9, .slice none 0 0] 204)) := by show _ = _; rw [heap_setCell_same w4 (w.heap.size + 1) 1 _ _ _ hk4]; rfl
        have HB4 : Hid (Below (w.heap.size + 1) W (w4.setCell ⟨w.heap.size + 1, 1, none⟩ (.slice a9 (k + 1) b9))) := ((((HBW.out.trans (hB3.mono (by have := HSZ.out; omega))).alloc (by have := hB3.size; have := HSZ.out; omega) _).grown hg4 (by have := hB3.size; have := HSZ.out; simp; omega) (fun g hg => by have := ((hw3.alloc (.cells #[.slice ax pts.length cx] 180)).lt g hg).1; omega))).setCell (show w.heap.size + 1 ≤ w.heap.size + 1 from Nat.le_refl _) _
        clear hP hx hb3 hB3 c3 hw3 hr3 hx3 l3 hbk3 hown4 hg4 hk4 k0 k1 k2 k3 g1 HROW HBLK HBW
        go_wp2
        go_roundw
        case rel => exact ⟨k + 1, _, by omega, by go_num, HR4, HK4, HB4⟩
        case measure => simp [intOf]; omega
    · have hke : k = m.cons.length := by omega
      have HFIN : Hid (PRow (w.heap.size + 2) wr (.slice ap k cp) L) := by have := HROW.out; rw [List.take_of_length_le (by rw [HLL.out]; omega)] at this; exact this
      have HRU : Hid (Rul wr (w.heap.size + 1) (.slice a1 m.vars.length c1) (.slice ap k cp) m.vars L) := rul_of (by omega) lr1 HBN.out HVW.out HT.out HFIN.out (by rw [← HL.out]; exact ptsM_lt m HM.out)
      have HRD : Hid (RulD wr wr (w.heap.size + 1) (.slice a1 m.vars.length c1) (.slice ap k cp) (.slice none 0 0) []) := ⟨HBLK.out, World.ownsRow_nil _ _ _ _, (fun z hz => by cases hz), Fr.refl _ _⟩
      have hle : ¬ ((k : Int) < (m.cons.length : Int)) := by omega
      clear hke k0 k1 k2 k3 g1
      go_wp2
      go_ret
      exact ⟨w.heap.size + 1, rfl, _, HRU.out, HRD.out, by omega, HBN.out, HFIN.out⟩
theorem of_rules (m : Mod) (hm : checkM m = 0) (vs cs : Value) (w : World) (hma : MArg w vs cs m) (hT : TabT w) :
    Calls Tryz.prog 87 #[modV vs cs m] w fun e w' => ∃ r pv, e = .returned (.pointer (some ⟨r, 0, none⟩)) ∧ Rul w' r vs pv m.vars (ptsM m) ∧ RulD w' w' r vs pv (.slice none 0 0) [] ∧ w.heap.size ≤ r ∧ Below w.heap.size w w' :=
  (of_rules0 m hm vs cs w hma hT).mono (by rintro e w' ⟨r, pv, h1, h2, h3, h4, h5, _⟩; exact ⟨r, pv, h1, h2, h3, h4, h5⟩)
end Go.Proofs.YtdjbejlbmaiocagGreatDoor
/-
  WALK: package seek: New.
-/
namespace Go.Proofs.YtdjbejlbmaiocagGreatDoor
open Go.RowKit Go.Maps

theorem sk_new {w w1 W : World} {s r mb : Nat} {sv pv : Value} {vs : List MVar} {pt : List (List Nat)} {fuel : Nat} (hv : VArg w sv vs) (hT : TabT w) (hb1 : Below w.heap.size w w1) (hr : w.heap.size ≤ r) (hm : w.heap.size ≤ mb) (hs : w1.heap.size ≤ s) (hmr : mb < r ∨ w1.heap.size ≤ mb)
    (hp : PRow (r + 1) w1 pv pt) (hl : ∀ pts ∈ pt, ∀ z ∈ pts, z < 2 ^ 36) (hbW : Below w1.heap.size w1 W)
    (hR : W.heap[r]? = some (.cells #[sv, pv, .slice none 0 0] 204)) (hS : W.heap[s]? = some (.cells #[sv, .pointer (some ⟨r, 0, none⟩), .int .i64 (fuel : Int), .slice none 0 0, .map (some mb), .slice none 0 0] 120))
    (hM : W.ownsMap Tryz.prog 183 (unitElem (H := Unit)) mb 0 (setU [])) : SkB W s r mb sv pv vs pt ∧ SkD W W s r mb sv pv (.slice none 0 0) (.slice none 0 0) (.slice none 0 0) [] [] ⟨[], fuel, [], []⟩ := by
  refine ⟨⟨(Array.getElem?_eq_some_iff.1 hR).1, (Array.getElem?_eq_some_iff.1 hS).1, hM.lt, fun w' hf => ?_⟩, ⟨hR, hS, World.ownsRow_nil _ _ _ _, (fun z hz => by cases hz), ⟨World.ownsRow_nil _ _ _ _, (fun x hx => by cases hx)⟩, rfl, hM, World.ownsRow_nil _ _ _ _, (fun x hx => by cases hx), Fr.refl _ _⟩⟩
  have hb2 : Below w.heap.size w w' := ⟨hf.os.trans (hbW.os.trans hb1.os), hf.tape.trans (hbW.tape.trans hb1.tape), hf.output.trans (hbW.output.trans hb1.output), Nat.le_trans (Nat.le_trans hb1.size hbW.size) hf.size, fun k hk => by
    have h1 := hb1.size
    have h2 := hbW.size
    exact (hf.block k (by omega) (by unfold XS; omega)).trans ((hbW.block k (by omega)).trans (hb1.block k hk))⟩
  refine ⟨VArg.below hb2 hv, ?_, hT.below hb2⟩
  have hf1 : Fr (fun k => k = r ∨ k = mb ∧ mb < r) w1 w' := ⟨hf.os.trans hbW.os, hf.tape.trans hbW.tape, hf.output.trans hbW.output, Nat.le_trans hbW.size hf.size, fun k hk hn => by
    have h2 := hbW.size
    exact (hf.block k (by omega) (by unfold XS; omega)).trans (hbW.block k hk)⟩
  exact (hp.fr hf1 (fun g hg => by omega)).arg hl

/-- A new searcher. -/
def NewQ (m : Mod) (vs : Value) (fuel : Nat) (w W : World) (s : Nat) : Prop := ∃ r mb pv, SkB W s r mb vs pv m.vars (ptsM m) ∧ SkD W W s r mb vs pv (.slice none 0 0) (.slice none 0 0) (.slice none 0 0) [] [] ⟨[], fuel, [], []⟩ ∧ Below w.heap.size w W ∧ w.heap.size ≤ r ∧ w.heap.size ≤ s ∧ w.heap.size ≤ mb
set_option maxHeartbeats 3200000 in
set_option maxRecDepth 100000 in
theorem new_any (m : Mod) (hm : checkM m = 0) (fuel : Nat) (vs cs : Value) (w : World) (hma : MArg w vs cs m) (hT : TabT w) :
    Calls Tryz.prog 41 #[modV vs cs m, .int .i64 (fuel : Int)] w fun e W => ∃ s, e = .returned (.pointer (some ⟨s, 0, none⟩)) ∧ NewQ m vs fuel w W s := by
  have HMA : Hid (∀ w', Below w.heap.size w w' → MArg w' vs cs m) := fun w' h => MArg.below h hma
  have HT : Hid (∀ w', Below w.heap.size w w' → TabT w') := fun w' h => hT.below h
  have HLT : Hid (∀ pts ∈ ptsM m, ∀ z ∈ pts, z < 2 ^ 36) := ptsM_lt m hm
  have HOF : Hid (∀ Z, Below w.heap.size w Z → Calls Tryz.prog 87 #[modV vs cs m] Z fun e w' => ∃ r pv, e = .returned (.pointer (some ⟨r, 0, none⟩)) ∧ w'.heap[r]? = some (.cells #[vs, pv, .slice none 0 0] 204) ∧ Z.heap.size ≤ r ∧ Below Z.heap.size Z w' ∧ PRow (r + 1) w' pv (ptsM m)) := fun Z hZ =>
    (of_rules0 m hm vs cs Z (HMA.out _ hZ) (HT.out _ hZ)).mono (by rintro e w' ⟨r, pv, h1, _, h3, h4, h5, h6⟩; exact ⟨r, pv, h1, h3.blk, h4, h5, h6⟩)
  have HV : Hid (VArg w vs m.vars) := hma.1
  obtain ⟨⟨a1, c1, rfl, _, _⟩, ⟨a2, c2, rfl, _, _⟩⟩ := hma
  unfold modV at *
  have hmm := @run_makeMap Tryz.prog
  clear hm hT
  go_enter Tryz.func41, Tryz.ntmps41
  go_wp2_with fail
  have hbY : Below w.heap.size w (w.alloc (.cells #[.slice a1 m.vars.length c1, .slice a2 m.cons.length c2, .int .i64 m.goal, .int .i64 m.var] 25)) := below_alloc _ _
  obtain ⟨Y, hY⟩ : ∃ Y, w.alloc (.cells #[.slice a1 m.vars.length c1, .slice a2 m.cons.length c2, .int .i64 m.goal, .int .i64 m.var] 25) = Y := ⟨_, rfl⟩
  have d0 : Y.cell? ⟨w.heap.size, 0, none⟩ = some (.slice a1 m.vars.length c1) := by rw [← hY]; simp
  have d1 : Y.cell? ⟨w.heap.size, 1, none⟩ = some (.slice a2 m.cons.length c2) := by rw [← hY]; simp
  have d2 : Y.cell? ⟨w.heap.size, 2, none⟩ = some (.int .i64 m.goal) := by rw [← hY]; simp
  have d3 : Y.cell? ⟨w.heap.size, 3, none⟩ = some (.int .i64 m.var) := by rw [← hY]; simp
  have dl : w.heap.size < Y.heap.size := by rw [← hY]; simp
  rw [hY] at hbY ⊢
  have HBY : Hid (Below w.heap.size w Y) := hbY
  clear hY hbY
  go_region_law
    (first
      | (rw [if_pos (by rfl)]; go_simp; go_at_call 87; refine (HOF.out _ HBY.out.drew).mono ?_; rintro e w3 ⟨r, pv, rfl, hr3, hrr, hb3, hp3⟩; have hB3 : Below Y.heap.size Y w3 := (Below.refl _ _).drew.trans hb3; have d0' := (hB3.cell (p := ⟨w.heap.size, 0, none⟩) dl).trans d0; have dl' : w.heap.size < w3.heap.size := Nat.lt_of_lt_of_le dl hB3.size; dsimp only)
      | (rw [if_pos (by rfl)]; go_simp; go_at_call 87; refine (HOF.out _ (HBY.out.drew.alloc HBY.out.size _)).mono ?_; rintro e w3 ⟨r, pv, rfl, hr3, hrr, hb3, hp3⟩; have hB4 : Below Y.heap.size Y w3 := ((Below.refl _ _).drew.alloc (Nat.le_refl _) _).trans (hb3.mono (by simp)); have d0' := (hB4.cell (p := ⟨w.heap.size, 0, none⟩) dl).trans d0; have dl' : w.heap.size < w3.heap.size := Nat.lt_of_lt_of_le dl hB4.size; dsimp only))
  all_goals
    first
      | (have HQ : Hid (NewQ m (.slice a1 m.vars.length c1) fuel w ((w3.alloc (.map #[] 0)).alloc (.cells #[.slice a1 m.vars.length c1, .pointer (some ⟨r, 0, none⟩), .int .i64 (fuel : Int), .slice none 0 0, .map (some w3.heap.size), .slice none 0 0] 120)) (w3.heap.size + 1)) := by
           have hbw : Below w.heap.size w w3 := HBY.out.trans (hB3.mono HBY.out.size)
           have hbW : Below w3.heap.size w3 ((w3.alloc (.map #[] 0)).alloc (.cells #[.slice a1 m.vars.length c1, .pointer (some ⟨r, 0, none⟩), .int .i64 (fuel : Int), .slice none 0 0, .map (some w3.heap.size), .slice none 0 0] 120)) := (below_alloc _ _).alloc (by simp) _
           have hsz := hbw.size
           have hry : Y.heap.size ≤ r := hrr
           have hS := heap_alloc_new (w3.alloc (.map #[] 0)) (.cells #[.slice a1 m.vars.length c1, .pointer (some ⟨r, 0, none⟩), .int .i64 (fuel : Int), .slice none 0 0, .map (some w3.heap.size), .slice none 0 0] 120)
           rw [World.size_alloc] at hS
           exact ⟨r, w3.heap.size, pv, (sk_new HV.out (HT.out _ (Below.refl _ _)) hbw (by omega) (by omega) (by omega) (Or.inr (Nat.le_refl _)) hp3 HLT.out hbW ((hbW.block r (Array.getElem?_eq_some_iff.1 hr3).1).trans hr3) hS ((World.ownsMap_made _ _ _ _).alloc _)).1, (sk_new HV.out (HT.out _ (Below.refl _ _)) hbw (by omega) (by omega) (by omega) (Or.inr (Nat.le_refl _)) hp3 HLT.out hbW ((hbW.block r (Array.getElem?_eq_some_iff.1 hr3).1).trans hr3) hS ((World.ownsMap_made _ _ _ _).alloc _)).2, hbw.trans (hbW.mono hsz), by omega, by omega, by omega⟩
         go_wp2
         go_ret
         exact ⟨_, rfl, HQ.out⟩)
      | (have HQ : Hid (NewQ m (.slice a1 m.vars.length c1) fuel w (w3.alloc (.cells #[.slice a1 m.vars.length c1, .pointer (some ⟨r, 0, none⟩), .int .i64 (fuel : Int), .slice none 0 0, .map (some Y.heap.size), .slice none 0 0] 120)) w3.heap.size) := by
           have hbw : Below w.heap.size w w3 := HBY.out.trans (hB4.mono HBY.out.size)
           have hbW : Below w3.heap.size w3 (w3.alloc (.cells #[.slice a1 m.vars.length c1, .pointer (some ⟨r, 0, none⟩), .int .i64 (fuel : Int), .slice none 0 0, .map (some Y.heap.size), .slice none 0 0] 120)) := below_alloc _ _
           have hsz := hbw.size
           have hry : Y.heap.size + 1 ≤ r := by simpa using hrr
           have hS := heap_alloc_new w3 (.cells #[.slice a1 m.vars.length c1, .pointer (some ⟨r, 0, none⟩), .int .i64 (fuel : Int), .slice none 0 0, .map (some Y.heap.size), .slice none 0 0] 120)
           have hmd : (Y.drew.alloc (.map #[] 0)).ownsMap Tryz.prog 183 (unitElem (H := Unit)) Y.heap.size 0 (setU []) := World.ownsMap_made Y.drew _ _ _
           have hM := (map_below hmd hb3).alloc (.cells #[.slice a1 m.vars.length c1, .pointer (some ⟨r, 0, none⟩), .int .i64 (fuel : Int), .slice none 0 0, .map (some Y.heap.size), .slice none 0 0] 120)
           exact ⟨r, Y.heap.size, pv, (sk_new HV.out (HT.out _ (Below.refl _ _)) hbw (by omega) (by omega) (by omega) (Or.inl (by omega)) hp3 HLT.out hbW ((hbW.block r (Array.getElem?_eq_some_iff.1 hr3).1).trans hr3) hS hM).1, (sk_new HV.out (HT.out _ (Below.refl _ _)) hbw (by omega) (by omega) (by omega) (Or.inl (by omega)) hp3 HLT.out hbW ((hbW.block r (Array.getElem?_eq_some_iff.1 hr3).1).trans hr3) hS hM).2, hbw.trans (hbW.mono hsz), by omega, by omega, by omega⟩
         go_wp2
         go_ret
         exact ⟨_, rfl, HQ.out⟩)
end Go.Proofs.YtdjbejlbmaiocagGreatDoor
/-
  PLAIN: what is solved. WALK: package search: Solve.
-/
namespace Go.Proofs.YtdjbejlbmaiocagGreatDoor
open Go.RowKit Go.Maps

structure Ans where
  verdict : Int
  values : List Int
  proof : List MStep
def noAns : Ans := ⟨0, [], []⟩
def startSk (fuel : Int) : Sk := ⟨[], fuel.toNat, [], []⟩
def solveR (m : Mod) (fuel : Int) : Int × List Int × Sk := nextP m.vars (ptsM m) (startSk fuel)
def solveA (m : Mod) (fuel : Int) : Ans × Int :=
  if checkM m = 0 then
    (if fuel < 0 ∨ 300 < fuel then (noAns, 3)
     else if (solveR m fuel).1 = 2 then (⟨2, [], (solveR m fuel).2.2.proof⟩, 0) else (⟨(solveR m fuel).1, (solveR m fuel).2.1, []⟩, 0))
  else (noAns, checkM m)
/-- An answer in memory, all of it made anew. -/
structure AnsQ (base : Nat) (w : World) (vv pp : Value) (a : Ans) : Prop where
  val : w.ownsRow base 3 1 vv a.values.length (a.values.map (Value.int .i64))
  prf : ∃ L : List SV, StOwn base w pp L ∧ L.map (·.1) = a.proof
theorem ansq_no (base : Nat) (w : World) (v : Int) : AnsQ base w (.slice none 0 0) (.slice none 0 0) ⟨v, [], []⟩ := ⟨World.ownsRow_nil _ _ _ _, [], ⟨World.ownsRow_nil _ _ _ _, fun x hx => by cases hx⟩, rfl⟩
theorem AnsQ.below {base : Nat} {w w' : World} {vv pp : Value} {a : Ans} (h : AnsQ base w vv pp a) (hb : Below w.heap.size w w') : AnsQ base w' vv pp a := by
  obtain ⟨L, h1, h2⟩ := h.prf
  exact ⟨own_below h.val hb, L, h1.below hb, h2⟩
theorem AnsQ.set {base : Nat} {w : World} {vv pp : Value} {a : Ans} {C : Nat} {cs : Array Value} (h : AnsQ base w vv pp a) (hC : w.heap[C]? = some (.cells cs 29)) (i : Nat) (u : Value) : AnsQ base (w.setCell ⟨C, i, none⟩ u) vv pp a := by
  obtain ⟨L, h1, h2⟩ := h.prf
  exact ⟨own_set h.val hC (by decide) i u, L, h1.set hC (by decide) (by decide) i u, h2⟩
theorem AnsQ.set3 {base : Nat} {w : World} {vv pp : Value} {a : Ans} {C : Nat} {x y z : Value} (h : AnsQ base w vv pp a) (hC : w.heap[C]? = some (.cells #[x, y, z] 29)) (u0 u1 u2 : Value) : AnsQ base (((w.setCell ⟨C, 0, none⟩ u0).setCell ⟨C, 1, none⟩ u1).setCell ⟨C, 2, none⟩ u2) vv pp a := by
  have h1 := h.set hC 0 u0
  have e1 : (w.setCell ⟨C, 0, none⟩ u0).heap[C]? = some (.cells #[u0, y, z] 29) := by rw [heap_setCell_same w C 0 _ _ u0 hC]; rfl
  have h2 := h1.set e1 1 u1
  have e2 : ((w.setCell ⟨C, 0, none⟩ u0).setCell ⟨C, 1, none⟩ u1).heap[C]? = some (.cells #[u0, u1, z] 29) := by rw [heap_setCell_same _ C 1 _ _ u1 e1]; rfl
  exact h2.set e2 2 u2
/-- What the two things that a call begins with leave. -/
theorem two_blocks (w : World) (a b : Obj) : ((w.alloc a).alloc b).heap[w.heap.size]? = some a ∧ ((w.alloc a).alloc b).heap[w.heap.size + 1]? = some b := by
  refine ⟨(Below.heap_alloc _ _ _ (by simp)).trans (heap_alloc_new w a), ?_⟩
  have h := heap_alloc_new (w.alloc a) b
  rw [World.size_alloc] at h
  exact h
theorem start_ok (vs : List MVar) (fuel : Int) (h : fuel ≤ 300) : SkO vs (startSk fuel) := ⟨by simp [startSk], by simp [startSk]; omega, path_nil vs⟩

set_option maxHeartbeats 3200000 in
set_option maxRecDepth 100000 in
theorem solve_any (m : Mod) (fuel : Int) (vs cs : Value) (w : World) (hma : MArg w vs cs m) (hT : TabT w) :
    Calls Tryz.prog 32 #[modV vs cs m, .int .i64 fuel] w fun e w' => ∃ vv pp, e = .returned (.tuple #[.agg #[.int .i64 (solveA m fuel).1.verdict, vv, pp], .int .i64 (solveA m fuel).2]) ∧ AnsQ w.heap.size w' vv pp (solveA m fuel).1 ∧ Below w.heap.size w w' := by
  have HMA : Hid (∀ w', Below w.heap.size w w' → MArg w' vs cs m) := fun w' h => MArg.below h hma
  have HT : Hid (∀ w', Below w.heap.size w w' → TabT w') := fun w' h => hT.below h
  obtain ⟨⟨a1, c1, rfl, _, _⟩, ⟨a2, c2, rfl, _, _⟩⟩ := hma
  obtain ⟨R, hR⟩ : ∃ R, solveA m fuel = R := ⟨_, rfl⟩
  rw [hR]
  obtain ⟨er, her⟩ : ∃ er, checkM m = er := ⟨_, rfl⟩
  have HER : Hid (checkM m = er) := her
  unfold solveA at hR
  rw [her] at hR
  have HR := (show Hid _ from hR)
  clear hR her hT
  unfold modV
  go_enter Tryz.func32, Tryz.ntmps32
  go_wp2_with fail
  obtain ⟨HA, HB⟩ := two_blocks w (.cells #[.slice a1 m.vars.length c1, .slice a2 m.cons.length c2, .int .i64 m.goal, .int .i64 m.var] 25) (.cells #[.int .i64 0, .slice none 0 0, .slice none 0 0] 29)
  have hbY : Below w.heap.size w ((w.alloc (.cells #[.slice a1 m.vars.length c1, .slice a2 m.cons.length c2, .int .i64 m.goal, .int .i64 m.var] 25)).alloc (.cells #[.int .i64 0, .slice none 0 0, .slice none 0 0] 29)) := (below_alloc _ _).alloc (by simp) _
  refine (check_model m (.slice a1 m.vars.length c1) (.slice a2 m.cons.length c2) _ (HMA.out _ hbY)).mono ?_
  rintro e w1 ⟨rfl, hb1⟩
  rw [HER.out]
  have HA1 : Hid (w1.heap[w.heap.size]? = some (.cells #[.slice a1 m.vars.length c1, .slice a2 m.cons.length c2, .int .i64 m.goal, .int .i64 m.var] 25)) := (hb1.block _ (by simp; omega)).trans HA
  have HB1 : Hid (w1.heap[w.heap.size + 1]? = some (.cells #[.int .i64 0, .slice none 0 0, .slice none 0 0] 29)) := (hb1.block _ (by simp)).trans HB
  have HBL : Hid (Below w.heap.size w w1) := hbY.trans (hb1.mono (by simp; omega))
  have hs1 : w.heap.size + 2 ≤ w1.heap.size := by simpa using hb1.size
  clear hb1 HA HB hbY
  have g0 := blk9 HA1.out 0 _ rfl
  have g1 := blk9 HA1.out 1 _ rfl
  have g2 := blk9 HA1.out 2 _ rfl
  have g3 := blk9 HA1.out 3 _ rfl
  have r0 := blk9 HB1.out 0 _ rfl
  have r1 := blk9 HB1.out 1 _ rfl
  have r2 := blk9 HB1.out 2 _ rfl
  have z0 := frz9 HB1.out 0
  have z1 := frz9 HB1.out 1
  have z2 := frz9 HB1.out 2
  have lq : w.heap.size < w1.heap.size := by omega
  have lr : w.heap.size + 1 < w1.heap.size := by omega
  by_cases he : er = 0
  · subst he
    have hR := HR.out
    rw [if_pos rfl] at hR
    by_cases hf : fuel < 0 ∨ 300 < fuel
    · rw [if_pos hf] at hR
      have HN : Hid ((noAns, (3 : Int)) = R) := hR
      have HQ : Hid (AnsQ w.heap.size (((w1.setCell ⟨w.heap.size + 1, 0, none⟩ (.int .i64 0)).setCell ⟨w.heap.size + 1, 1, none⟩ (.slice none 0 0)).setCell ⟨w.heap.size + 1, 2, none⟩ (.slice none 0 0)) (.slice none 0 0) (.slice none 0 0) noAns) := ansq_no _ _ _
      have HBE : Hid (Below w.heap.size w (((w1.setCell ⟨w.heap.size + 1, 0, none⟩ (.int .i64 0)).setCell ⟨w.heap.size + 1, 1, none⟩ (.slice none 0 0)).setCell ⟨w.heap.size + 1, 2, none⟩ (.slice none 0 0))) := ((HBL.out.setCell (by simp only; omega) _).setCell (by simp only; omega) _).setCell (by simp only; omega) _
      clear hR HR
      by_cases hf0 : fuel < 0
      · clear hf
        go_wp2
        refine bodyPost_ret (by simp [results, Tryz.results32, go_sem, *]; try rfl) rfl ?_
        rw [← HN.out]
        exact ⟨_, _, rfl, HQ.out, HBE.out⟩
      · have hf1 : 300 < fuel := by rcases hf with h | h; exact absurd h hf0; exact h
        clear hf
        go_wp2
        refine bodyPost_ret (by simp [results, Tryz.results32, go_sem, *]; try rfl) rfl ?_
        rw [← HN.out]
        exact ⟨_, _, rfl, HQ.out, HBE.out⟩
    · rw [if_neg hf] at hR
      have hf0 : ¬ fuel < 0 := fun h => hf (Or.inl h)
      have hf1 : ¬ 300 < fuel := fun h => hf (Or.inr h)
      obtain ⟨fn, rfl⟩ : ∃ fn : Nat, fuel = (fn : Int) := ⟨fuel.toNat, by omega⟩
      have HR2 := (show Hid _ from hR)
      clear hR HR hf
      go_wp2_with fail
      refine (new_any m HER.out fn (.slice a1 m.vars.length c1) (.slice a2 m.cons.length c2) w1 (HMA.out _ HBL.out) (HT.out _ HBL.out)).mono ?_
      rintro e W ⟨s, rfl, r, mb, pv, hB, hD, hbW, hr, hs, hmb⟩
      have HSB : Hid (SkB W s r mb (.slice a1 m.vars.length c1) pv m.vars (ptsM m)) := hB
      have HSD := (show Hid _ from hD)
      have HBW : Hid (Below w1.heap.size w1 W) := hbW
      clear hB hD hbW
      go_wp2_with fail
      refine (snext_any m.vars (vars_all m HER.out) (vars_one m HER.out) (ptsM m) W s r mb _ pv _ _ _ HSB.out [] ⟨[], fn, [], []⟩ (start_ok m.vars (fn : Int) (by omega)) W HSD.out).mono ?_
      rintro e w2 ⟨x, rfl, hox, htf, cv', prv', pav', L', hd2⟩
      obtain ⟨X, hX⟩ : ∃ X, nextP m.vars (ptsM m) ⟨[], fn, [], []⟩ = X := ⟨_, rfl⟩
      rw [hX] at hox hd2 ⊢
      have HXE : Hid (solveR m (fn : Int) = X) := hX
      rw [HXE.out] at HR2
      have HO2 : Hid (w2.ownsRow W.heap.size 3 1 x X.2.1.length (X.2.1.map (Value.int .i64))) := hox
      have HD2 := (show Hid _ from hd2)
      have HB2 : Hid (w2.heap[w.heap.size + 1]? = some (.cells #[.int .i64 0, .slice none 0 0, .slice none 0 0] 29)) := by
        have h1 := (HBW.out.block _ lr).trans HB1.out
        exact (htf.block _ _ _ _ h1 (by unfold TNo; decide)).trans h1
      have HBL2 : Hid (Below w.heap.size w w2) := by
        have hfr := hd2.fr
        have h1 := HBL.out.trans (HBW.out.mono HBL.out.size)
        refine ⟨hfr.os.trans h1.os, hfr.tape.trans h1.tape, hfr.output.trans h1.output, Nat.le_trans h1.size hfr.size, fun k hk => (hfr.block k (Nat.lt_of_lt_of_le hk h1.size) (by unfold XS; have := HBL.out.size; omega)).trans (h1.block k hk)⟩
      have HWS : Hid (w.heap.size ≤ W.heap.size) := Nat.le_trans HBL.out.size HBW.out.size
      obtain ⟨s0, s1, s2, s3, s4, s5, s6⟩ := hd2.cells
      obtain ⟨apr, cpr, rfl⟩ := own_form hd2.prf.1
      obtain ⟨ax, cx, rfl⟩ := own_form hox
      have hsq : w.heap.size + 1 < w2.heap.size := (Array.getElem?_eq_some_iff.1 HB2.out).1
      clear hox htf hd2 hX r0 r1 r2 z0 z1 z2 g0 g1 g2 g3 hf0 hf1
      have r0 := blk9 HB2.out 0 _ rfl
      have r1 := blk9 HB2.out 1 _ rfl
      have r2 := blk9 HB2.out 2 _ rfl
      have z0 := frz9 HB2.out 0
      have z1 := frz9 HB2.out 1
      have z2 := frz9 HB2.out 2
      obtain ⟨x1, x2, x3⟩ := X
      simp only at HO2 HD2 s3 HR2
      by_cases hv : x1 = 2
      · have hR := HR2.out
        rw [if_pos hv] at hR
        subst hv
        have HN : Hid ((⟨2, [], x3.proof⟩, 0) = R) := hR
        have HQ : Hid (AnsQ w.heap.size (((w2.setCell ⟨w.heap.size + 1, 0, none⟩ (.int .i64 2)).setCell ⟨w.heap.size + 1, 1, none⟩ (.slice none 0 0)).setCell ⟨w.heap.size + 1, 2, none⟩ (.slice apr L'.length cpr)) (.slice none 0 0) (.slice apr L'.length cpr) ⟨2, [], x3.proof⟩) :=
          AnsQ.set3 (w := w2) ⟨World.ownsRow_nil _ _ _ _, L', HD2.out.prf.mono HWS.out, HD2.out.prfE⟩ HB2.out _ _ _
        have HBE : Hid (Below w.heap.size w (((w2.setCell ⟨w.heap.size + 1, 0, none⟩ (.int .i64 2)).setCell ⟨w.heap.size + 1, 1, none⟩ (.slice none 0 0)).setCell ⟨w.heap.size + 1, 2, none⟩ (.slice apr L'.length cpr))) := ((HBL2.out.setCell (by simp only; omega) _).setCell (by simp only; omega) _).setCell (by simp only; omega) _
        clear hR HR2 HO2
        go_wp2
        refine bodyPost_ret (by simp [results, Tryz.results32, go_sem, *]; try rfl) rfl ?_
        rw [← HN.out]
        exact ⟨_, _, rfl, HQ.out, HBE.out⟩
      · have hR := HR2.out
        rw [if_neg hv] at hR
        have hv' : (x1 == 2) = false := by simpa using hv
        have HN : Hid ((⟨x1, x2, []⟩, 0) = R) := hR
        have HQ : Hid (AnsQ w.heap.size (((w2.setCell ⟨w.heap.size + 1, 0, none⟩ (.int .i64 x1)).setCell ⟨w.heap.size + 1, 1, none⟩ (.slice ax x2.length cx)).setCell ⟨w.heap.size + 1, 2, none⟩ (.slice none 0 0)) (.slice ax x2.length cx) (.slice none 0 0) ⟨x1, x2, []⟩) :=
          AnsQ.set3 (w := w2) ⟨World.ownsRow.mono HO2.out HWS.out, [], ⟨World.ownsRow_nil _ _ _ _, fun x hx => by cases hx⟩, rfl⟩ HB2.out _ _ _
        have HBE : Hid (Below w.heap.size w (((w2.setCell ⟨w.heap.size + 1, 0, none⟩ (.int .i64 x1)).setCell ⟨w.heap.size + 1, 1, none⟩ (.slice ax x2.length cx)).setCell ⟨w.heap.size + 1, 2, none⟩ (.slice none 0 0))) := ((HBL2.out.setCell (by simp only; omega) _).setCell (by simp only; omega) _).setCell (by simp only; omega) _
        clear hR HR2 HO2
        go_wp2
        refine bodyPost_ret (by simp [results, Tryz.results32, go_sem, *]; try rfl) rfl ?_
        rw [← HN.out]
        exact ⟨_, _, rfl, HQ.out, HBE.out⟩
  · have hR := HR.out
    rw [if_neg he] at hR
    have HN : Hid ((noAns, er) = R) := hR
    have he' : (er != 0) = true := by simpa using he
    have HQ : Hid (AnsQ w.heap.size (((w1.setCell ⟨w.heap.size + 1, 0, none⟩ (.int .i64 0)).setCell ⟨w.heap.size + 1, 1, none⟩ (.slice none 0 0)).setCell ⟨w.heap.size + 1, 2, none⟩ (.slice none 0 0)) (.slice none 0 0) (.slice none 0 0) noAns) := ansq_no _ _ _
    have HBE : Hid (Below w.heap.size w (((w1.setCell ⟨w.heap.size + 1, 0, none⟩ (.int .i64 0)).setCell ⟨w.heap.size + 1, 1, none⟩ (.slice none 0 0)).setCell ⟨w.heap.size + 1, 2, none⟩ (.slice none 0 0))) := ((HBL.out.setCell (by simp only; omega) _).setCell (by simp only; omega) _).setCell (by simp only; omega) _
    clear hR HR
    go_wp2
    refine bodyPost_ret (by simp [results, Tryz.results32, go_sem, *]; try rfl) rfl ?_
    rw [← HN.out]
    exact ⟨_, _, rfl, HQ.out, HBE.out⟩
end Go.Proofs.YtdjbejlbmaiocagGreatDoor
/-
  PLAIN: what would be better. WALKS: package best: better, Better.
-/
namespace Go.Proofs.YtdjbejlbmaiocagGreatDoor
open Go.RowKit Go.Maps

def betterC (m : Mod) (vals : List Int) : Cla :=
  if m.goal = 1 then [⟨m.var, 1, valAt vals m.var - 1⟩] else if m.goal = 2 then [⟨m.var, 2, valAt vals m.var + 1⟩] else []
def betterA (m : Mod) (vals : List Int) : Cla × Int :=
  if checkM m = 0 then
    (if vals.length = m.vars.length then
      (if m.goal ≠ 0 ∧ (valAt vals m.var < (varAt m.vars m.var.toNat).lo ∨ (varAt m.vars m.var.toNat).hi < valAt vals m.var) then ([], 3) else (betterC m vals, 0))
     else ([], 1))
  else ([], checkM m)
theorem lown_one (w : World) (l : MLit) : LOwn w.heap.size (w.alloc (.cells #[.int .i64 l.var, .int .i64 l.op, .int .i64 l.n] 88)) (.slice (some ⟨w.heap.size, 0, none⟩) 1 1) [l] :=
  ⟨rfl, .inr ⟨w.heap.size, 1, _, rfl, Nat.le_refl _, heap_alloc_new _ _, Nat.le_refl _, by decide, rfl, rfl⟩⟩

set_option maxHeartbeats 1600000 in
set_option maxRecDepth 100000 in
theorem better_any (m : Mod) (vals : List Int) (hk : 0 ≤ m.var ∧ m.var < (vals.length : Int)) (hb : -1000 ≤ valAt vals m.var ∧ valAt vals m.var ≤ 1000) (vs cs v : Value) (w : World) (hv : IArg w v vals) :
    Calls Tryz.prog 89 #[modV vs cs m, v] w fun e w' => ∃ x, e = .returned x ∧ LOwn w.heap.size w' x (betterC m vals) ∧ Below w.heap.size w w' := by
  obtain ⟨mv, mc, mg, mk⟩ := m
  unfold betterC modV
  simp only at hk hb ⊢
  obtain ⟨k, rfl⟩ : ∃ k : Nat, mk = (k : Int) := ⟨mk.toNat, by omega⟩
  have hkl : k < vals.length := by omega
  obtain ⟨z, hz⟩ : ∃ z, vals[k]? = some z := ⟨vals[k], by rw [List.getElem?_eq_getElem hkl]⟩
  have hvz : valAt vals (k : Int) = z := by unfold valAt; rw [Int.toNat_natCast, List.getD_eq_getElem?_getD, hz]; rfl
  rw [hvz] at hb ⊢
  obtain ⟨a, c, rfl, hm, hr⟩ := hv
  obtain ⟨b, off, ha, hbl, hc⟩ := hr k z hz
  subst ha
  have hkl2 : (k : Int) < (vals.length : Int) := by omega
  clear hr hz hvz hk
  by_cases h1 : mg = 1
  · subst h1
    rw [if_pos rfl]
    have hwr : IntKind.i64.wrap (z - 1) = z - 1 := by rw [IntKind.wrap_i64]; omega
    go_enter Tryz.func89, Tryz.ntmps89
    go_wp2_with fail
    have hbY : Below w.heap.size w (w.alloc (.cells #[vs, cs, .int .i64 1, .int .i64 (k : Int)] 25)) := below_alloc _ _
    obtain ⟨Y, hY⟩ : ∃ Y, w.alloc (.cells #[vs, cs, .int .i64 1, .int .i64 (k : Int)] 25) = Y := ⟨_, rfl⟩
    have d3 : Y.cell? ⟨w.heap.size, 3, none⟩ = some (.int .i64 (k : Int)) := by rw [← hY]; simp
    have dl : w.heap.size < Y.heap.size := by rw [← hY]; simp
    rw [hY] at hbY ⊢
    have dc : Y.cell? ⟨b, off + k, none⟩ = some (.int .i64 z) := (hbY.cell (p := ⟨b, off + k, none⟩) hbl).trans hc
    have dbl : b < Y.heap.size := by have := hbY.size; omega
    have HBY : Hid (Below w.heap.size w Y) := hbY
    have HLO : Hid (LOwn Y.drew.heap.size (Y.drew.alloc (.cells #[.int .i64 (k : Int), .int .i64 1, .int .i64 (z - 1)] 88)) (.slice (some ⟨Y.drew.heap.size, 0, none⟩) 1 1) [⟨(k : Int), 1, z - 1⟩]) := lown_one Y.drew ⟨(k : Int), 1, z - 1⟩
    have hsz := hbY.size
    clear hY hbY hc hbl
    go_region_law (fail)
    all_goals
      go_wp2
      go_ret
      exact ⟨_, rfl, own_lower hsz HLO.out, HBY.out.drew.alloc hsz _⟩
  · by_cases h2 : mg = 2
    · subst h2
      rw [if_neg (by decide), if_pos rfl]
      have hwr : IntKind.i64.wrap (z + 1) = z + 1 := by rw [IntKind.wrap_i64]; omega
      clear h1
      go_enter Tryz.func89, Tryz.ntmps89
      go_wp2_with fail
      have hbY : Below w.heap.size w (w.alloc (.cells #[vs, cs, .int .i64 2, .int .i64 (k : Int)] 25)) := below_alloc _ _
      obtain ⟨Y, hY⟩ : ∃ Y, w.alloc (.cells #[vs, cs, .int .i64 2, .int .i64 (k : Int)] 25) = Y := ⟨_, rfl⟩
      have d3 : Y.cell? ⟨w.heap.size, 3, none⟩ = some (.int .i64 (k : Int)) := by rw [← hY]; simp
      have dl : w.heap.size < Y.heap.size := by rw [← hY]; simp
      rw [hY] at hbY ⊢
      have dc : Y.cell? ⟨b, off + k, none⟩ = some (.int .i64 z) := (hbY.cell (p := ⟨b, off + k, none⟩) hbl).trans hc
      have dbl : b < Y.heap.size := by have := hbY.size; omega
      have HBY : Hid (Below w.heap.size w Y) := hbY
      have HLO : Hid (LOwn Y.drew.heap.size (Y.drew.alloc (.cells #[.int .i64 (k : Int), .int .i64 2, .int .i64 (z + 1)] 88)) (.slice (some ⟨Y.drew.heap.size, 0, none⟩) 1 1) [⟨(k : Int), 2, z + 1⟩]) := lown_one Y.drew ⟨(k : Int), 2, z + 1⟩
      have hsz := hbY.size
      clear hY hbY hc hbl
      go_region_law (fail)
      all_goals
        go_wp2
        go_ret
        exact ⟨_, rfl, own_lower hsz HLO.out, HBY.out.drew.alloc hsz _⟩
    · rw [if_neg h1, if_neg h2]
      have h1' : (mg == 1) = false := by simpa using h1
      have h2' : (mg == 2) = false := by simpa using h2
      clear h1 h2
      go_enter Tryz.func89, Tryz.ntmps89
      go_wp2
      go_ret
      exact ⟨_, rfl, World.ownsRow_nil _ _ _ _, below_alloc _ _⟩
end Go.Proofs.YtdjbejlbmaiocagGreatDoor
/-
  WALK: package best: Better.
-/
namespace Go.Proofs.YtdjbejlbmaiocagGreatDoor
open Go.RowKit Go.Maps

theorem goal_var (m : Mod) (hm : checkM m = 0) : 0 ≤ m.var ∧ m.var < (m.vars.length : Int) ∧ (m.goal = 0 ∨ m.goal = 1 ∨ m.goal = 2) := by
  obtain ⟨h1, _, _, _, _, h6⟩ := checkM_vars m hm
  unfold goalE at h6
  split at h6
  · rename_i hg
    split at h6
    · rename_i hv
      exact ⟨by omega, by omega, Or.inl hg⟩
    · cases h6
  · split at h6
    · rename_i hg
      split at h6
      · rename_i hv
        unfold isVarB at hv
        simp only [Bool.and_eq_true, decide_eq_true_eq] at hv
        exact ⟨hv.1, hv.2, Or.inr hg⟩
      · cases h6
    · cases h6

set_option maxHeartbeats 1600000 in
set_option maxRecDepth 100000 in
theorem better_none (k : Nat) (vs cs v : Value) (w : World) :
    Calls Tryz.prog 89 #[.agg #[vs, cs, .int .i64 0, .int .i64 (k : Int)], v] w fun e w' => ∃ x, e = .returned x ∧ LOwn w.heap.size w' x [] ∧ Below w.heap.size w w' := by
  go_enter Tryz.func89, Tryz.ntmps89
  go_wp2
  go_ret
  exact ⟨_, rfl, World.ownsRow_nil _ _ _ _, below_alloc _ _⟩
set_option maxHeartbeats 3200000 in
set_option maxRecDepth 100000 in
theorem bbetter_any (m : Mod) (vals : List Int) (vs cs v : Value) (w : World) (hma : MArg w vs cs m) (hv : IArg w v vals) :
    Calls Tryz.prog 46 #[modV vs cs m, v] w fun e w' => ∃ x, e = .returned (.tuple #[x, .int .i64 (betterA m vals).2]) ∧ LOwn w.heap.size w' x (betterA m vals).1 ∧ Below w.heap.size w w' := by
  have HMA : Hid (∀ w', Below w.heap.size w w' → MArg w' vs cs m) := fun w' h => MArg.below h hma
  have HIV : Hid (∀ w', Below w.heap.size w w' → IArg w' v vals) := fun w' h => IArg.below h hv
  obtain ⟨⟨a1, c1, rfl, _, hvr⟩, ⟨a2, c2, rfl, _, _⟩⟩ := hma
  have HV : Hid (∀ (i : Nat) (t : MVar), m.vars[i]? = some t → t.name.size ≤ maxLen ∧ ∃ b off, a1 = some ⟨b, off, none⟩ ∧ b < w.heap.size ∧
    w.cell? ⟨b, off + i * 3, none⟩ = some (.string t.name) ∧ w.cell? ⟨b, off + i * 3 + 1, none⟩ = some (.int .i64 t.lo) ∧ w.cell? ⟨b, off + i * 3 + 2, none⟩ = some (.int .i64 t.hi)) := hvr
  obtain ⟨a3, c3, rfl, _, hir⟩ := hv
  have HI : Hid (∀ (i : Nat) (z : Int), vals[i]? = some z → ∃ b off, a3 = some ⟨b, off, none⟩ ∧ b < w.heap.size ∧ w.cell? ⟨b, off + i, none⟩ = some (.int .i64 z)) := hir
  obtain ⟨R, hR⟩ : ∃ R, betterA m vals = R := ⟨_, rfl⟩
  rw [hR]
  obtain ⟨er, her⟩ : ∃ er, checkM m = er := ⟨_, rfl⟩
  have HER : Hid (checkM m = er) := her
  unfold betterA at hR
  rw [her] at hR
  have HR := (show Hid _ from hR)
  clear hR her hvr hir
  have HBT : Hid (∀ (Y : World), Below w.heap.size w Y → 0 ≤ m.var ∧ m.var < (vals.length : Int) → -1000 ≤ valAt vals m.var ∧ valAt vals m.var ≤ 1000 → Calls Tryz.prog 89 #[.agg #[.slice a1 m.vars.length c1, .slice a2 m.cons.length c2, .int .i64 m.goal, .int .i64 m.var], .slice a3 vals.length c3] Y fun e w' => ∃ x, e = .returned x ∧ LOwn Y.heap.size w' x (betterC m vals) ∧ Below Y.heap.size Y w') := fun Y hY h1 h2 =>
    better_any m vals h1 h2 (.slice a1 m.vars.length c1) (.slice a2 m.cons.length c2) _ Y (HIV.out _ hY)
  unfold modV
  go_enter Tryz.func46, Tryz.ntmps46
  go_wp2_with fail
  have hbY : Below w.heap.size w (w.alloc (.cells #[.slice a1 m.vars.length c1, .slice a2 m.cons.length c2, .int .i64 m.goal, .int .i64 m.var] 25)) := below_alloc _ _
  refine (check_model m (.slice a1 m.vars.length c1) (.slice a2 m.cons.length c2) _ (HMA.out _ hbY)).mono ?_
  rintro e w1 ⟨rfl, hb1⟩
  rw [HER.out]
  have HA1 : Hid (w1.heap[w.heap.size]? = some (.cells #[.slice a1 m.vars.length c1, .slice a2 m.cons.length c2, .int .i64 m.goal, .int .i64 m.var] 25)) := (hb1.block _ (by simp)).trans (heap_alloc_new _ _)
  have HBL : Hid (Below w.heap.size w w1) := hbY.trans (hb1.mono (by simp))
  have lq : w.heap.size < w1.heap.size := by have := hb1.size; simp at this; omega
  clear hb1 hbY
  have g0 := blk9 HA1.out 0 _ rfl
  have g1 := blk9 HA1.out 1 _ rfl
  have g2 := blk9 HA1.out 2 _ rfl
  have g3 := blk9 HA1.out 3 _ rfl
  have hsz := HBL.out.size
  by_cases he : er = 0
  · subst he
    have hR := HR.out
    rw [if_pos rfl] at hR
    obtain ⟨q1, q2, q3⟩ := goal_var m HER.out
    by_cases hl : vals.length = m.vars.length
    · rw [if_pos hl] at hR
      have HL : Hid (vals.length = m.vars.length) := hl
      obtain ⟨k, hk⟩ : ∃ k : Nat, m.var = (k : Int) := ⟨m.var.toNat, by omega⟩
      have hkn : k < m.vars.length := by omega
      obtain ⟨t, ht⟩ : ∃ t, m.vars[k]? = some t := ⟨m.vars[k], by rw [List.getElem?_eq_getElem hkn]⟩
      obtain ⟨_, b, off, ha, hbl, c0, c1', c2'⟩ := HV.out k t ht
      obtain ⟨z, hz⟩ : ∃ z, vals[k]? = some z := ⟨vals[k]'(by omega), by rw [List.getElem?_eq_getElem (by omega)]⟩
      obtain ⟨b3, off3, ha3, hbl3, cz⟩ := HI.out k z hz
      subst ha ha3
      have hta := var_ok m HER.out k t ht
      have hvt : varAt m.vars k = t := by unfold varAt; rw [List.getD_eq_getElem?_getD, ht]; rfl
      have hvz : valAt vals m.var = z := by unfold valAt; rw [hk, Int.toNat_natCast, List.getD_eq_getElem?_getD, hz]; rfl
      rw [hvz, hk, Int.toNat_natCast, hvt] at hR
      have HVZ : Hid (valAt vals m.var = z) := hvz
      have HMV : Hid (0 ≤ m.var ∧ m.var < (vals.length : Int)) := ⟨q1, by omega⟩
      have e0 := (HBL.out.cell (p := ⟨b, off + k * 3, none⟩) hbl).trans c0
      have e1 := (HBL.out.cell (p := ⟨b, off + k * 3 + 1, none⟩) hbl).trans c1'
      have e2 := (HBL.out.cell (p := ⟨b, off + k * 3 + 2, none⟩) hbl).trans c2'
      have e3 := (HBL.out.cell (p := ⟨b3, off3 + k, none⟩) hbl3).trans cz
      have lb : b < w1.heap.size := by omega
      have lb3 : b3 < w1.heap.size := by omega
      have hkn' : (k : Int) < (m.vars.length : Int) := by omega
      have hkz : k < vals.length := by omega
      have hkz' : (k : Int) < (vals.length : Int) := by omega
      rw [hk] at g3 HBT
      have hq : ((vals.length : Int) != (m.vars.length : Int)) = false := by rw [hl]; simp
      have hlt2 : -50 ≤ t.lo ∧ t.hi ≤ 50 := by omega
      have HB2 : Hid (∀ o : Obj, Below w.heap.size w (w1.alloc o)) := fun o => HBL.out.alloc HBL.out.size o
      obtain ⟨tn, tl, th⟩ := t
      simp only at e0 e1 e2 hR hlt2 hta
      have HR2 := (show Hid _ from hR)
      have HVB : Hid (valAt vals m.var = z) := HVZ.out
      by_cases hg : m.goal = 0
      · have hR2 := HR2.out
        rw [if_neg (fun h => h.1 hg)] at hR2
        have HN : Hid ((betterC m vals, 0) = R) := hR2
        have hbc : betterC m vals = [] := by unfold betterC; rw [hg]; rfl
        rw [hg] at g2
        have hgb : (m.goal != 0) = false := by rw [hg]; rfl
        clear hR hR2 HR2 HR hl hta hvt hvz q1 q2 q3 c0 c1' c2' cz ht hz hbl hbl3
        have HBT2 : Hid (∀ (Y : World), Calls Tryz.prog 89 #[.agg #[.slice (some ⟨b, off, none⟩) m.vars.length c1, .slice a2 m.cons.length c2, .int .i64 0, .int .i64 (k : Int)], .slice (some ⟨b3, off3, none⟩) vals.length c3] Y fun e w' => ∃ x, e = .returned x ∧ LOwn Y.heap.size w' x [] ∧ Below Y.heap.size Y w') := fun Y => better_none k _ _ _ Y
        clear hg hgb
        go_wp2_with fail
        go_quiet (fail)
        go_wp2_with fail
        refine (HBT2.out _).mono ?_
        rintro e w2 ⟨x, rfl, hx, hb2⟩
        have hBE := below_drewN (HB2.out (.cells #[.string tn, .int .i64 tl, .int .i64 th] 71)) nq
        have HBE : Hid (Below w.heap.size w w2) := hBE.trans (hb2.mono hBE.size)
        have HX : Hid (LOwn w.heap.size w2 x []) := own_lower hBE.size hx
        clear hBE hx hb2
        go_wp2
        go_ret2
        rw [← HN.out, hbc]
        exact ⟨_, rfl, HX.out, HBE.out⟩
      · have hgb : (m.goal != 0) = true := by simpa using hg
        by_cases h1 : z < tl
        · have hR2 := HR2.out
          rw [if_pos ⟨hg, Or.inl h1⟩] at hR2
          have HN : Hid (([], 3) = R) := hR2
          clear hR hR2 HR2 HR hl hta hvt hvz q1 q2 q3 c0 c1' c2' cz ht hz hbl hbl3 hg
          go_wp2_with fail
          go_quiet (fail)
          go_wp2
          go_ret2
          rw [← HN.out]
          exact ⟨_, rfl, World.ownsRow_nil _ _ _ _, below_drewN (HB2.out _) _⟩
        · by_cases h2 : th < z
          · have hR2 := HR2.out
            rw [if_pos ⟨hg, Or.inr h2⟩] at hR2
            have HN : Hid (([], 3) = R) := hR2
            clear hR hR2 HR2 HR hl hta hvt hvz q1 q2 q3 c0 c1' c2' cz ht hz hbl hbl3 hg
            go_wp2_with fail
            go_quiet (fail)
            go_wp2
            go_ret2
            rw [← HN.out]
            exact ⟨_, rfl, World.ownsRow_nil _ _ _ _, below_drewN (HB2.out _) _⟩
          · have hR2 := HR2.out
            rw [if_neg (fun h => by rcases h.2 with h | h <;> omega)] at hR2
            have HN : Hid ((betterC m vals, 0) = R) := hR2
            have HZ : Hid (-1000 ≤ valAt vals m.var ∧ valAt vals m.var ≤ 1000) := by rw [HVB.out]; show _ ∧ _; omega
            rw [hk] at HMV HZ
            clear hR hR2 HR2 HR hl hta hvt hvz q1 q2 q3 c0 c1' c2' cz ht hz hbl hbl3 hg
            go_wp2_with fail
            go_quiet (fail)
            go_wp2_with fail
            have hBE := below_drewN (HB2.out (.cells #[.string tn, .int .i64 tl, .int .i64 th] 71)) nq
            refine (HBT.out _ hBE HMV.out HZ.out).mono ?_
            rintro e w2 ⟨x, rfl, hx, hb2⟩
            have HBE : Hid (Below w.heap.size w w2) := hBE.trans (hb2.mono hBE.size)
            have HX : Hid (LOwn w.heap.size w2 x (betterC m vals)) := own_lower hBE.size hx
            clear hBE hx hb2
            go_wp2
            go_ret2
            rw [← HN.out]
            exact ⟨_, rfl, HX.out, HBE.out⟩
    · rw [if_neg hl] at hR
      have HN : Hid (([], 1) = R) := hR
      have hl' : ((vals.length : Int) != (m.vars.length : Int)) = true := by simpa using (fun h : (vals.length : Int) = (m.vars.length : Int) => hl (by omega))
      clear hR HR hl q1 q2 q3
      go_wp2
      go_ret2
      rw [← HN.out]
      exact ⟨_, rfl, World.ownsRow_nil _ _ _ _, HBL.out⟩
  · have hR := HR.out
    rw [if_neg he] at hR
    have HN : Hid (([], er) = R) := hR
    have he' : (er != 0) = true := by simpa using he
    clear hR HR he
    go_wp2
    go_ret2
    rw [← HN.out]
    exact ⟨_, rfl, World.ownsRow_nil _ _ _ _, HBL.out⟩
end Go.Proofs.YtdjbejlbmaiocagGreatDoor
/-
  PLAIN: climbing from values to better ones; what is best.
-/
namespace Go.Proofs.YtdjbejlbmaiocagGreatDoor

def moreSk (m : Mod) (R : Int × List Int × Sk) : Sk := ⟨R.2.2.cs ++ [heldP m.vars (betterC m R.2.1)], R.2.2.fuel, R.2.2.proof, R.2.2.path⟩
def climbN (m : Mod) : Nat → Int × List Int × Sk → List Int → Ans
  | 0, _, _ => noAns
  | n + 1, R, best => if R.1 = 1 then climbN m n (nextP m.vars (ptsM m) (moreSk m R)) R.2.1
    else if R.1 = 3 then ⟨3, [], []⟩ else if 0 < best.length then ⟨1, best, R.2.2.proof⟩ else ⟨R.1, best, R.2.2.proof⟩
/-- How many values may be better still. -/
def roomR (m : Mod) (R : Int × List Int × Sk) : Nat :=
  if R.1 = 1 then (if m.goal = 1 then (valAt R.2.1 m.var - (varAt m.vars m.var.toNat).lo).toNat + 1 else ((varAt m.vars m.var.toNat).hi - valAt R.2.1 m.var).toNat + 1) else 0
def climbP (m : Mod) (R : Int × List Int × Sk) (best : List Int) : Ans := climbN m (roomR m R + 1) R best
def climbA (m : Mod) (fuel : Int) : Ans := climbP m (solveR m fuel) []
def bestA (m : Mod) (fuel : Int) : Ans × Int :=
  if m.goal = 0 then solveA m fuel
  else if checkM m = 0 then (if fuel < 0 ∨ 300 < fuel then (noAns, 3) else (climbA m fuel, 0)) else (noAns, checkM m)

theorem next_found (m : Mod) (hm : checkM m = 0) (S : Sk) (h : (nextP m.vars (ptsM m) S).1 = 1) : Sol m (nextP m.vars (ptsM m) S).2.1 ∧ ∀ c ∈ S.cs, Hits m.vars (nextP m.vars (ptsM m) S).2.1 c := by
  obtain ⟨_, h2, _⟩ := next_sound m hm (fun _ => False) _ S (Nat.lt_succ_self _) (fun x _ hf => hf.elim)
  obtain ⟨k1, k2, k3⟩ := h2 h
  exact ⟨k1, fun c hc => k2 c (k3 c hc)⟩
theorem better_vars (m : Mod) (hm : checkM m = 0) (vals : List Int) : ∀ l ∈ betterC m vals, 0 ≤ l.var ∧ l.var < (m.vars.length : Int) := by
  obtain ⟨h1, h2, _⟩ := goal_var m hm
  intro l hl
  unfold betterC at hl
  split at hl
  · rw [List.mem_singleton.1 hl]; exact ⟨h1, h2⟩
  · split at hl
    · rw [List.mem_singleton.1 hl]; exact ⟨h1, h2⟩
    · cases hl
/-- Better values are better. -/
theorem better_claB (m : Mod) (vals x : List Int) (hg : m.goal = 1 ∨ m.goal = 2) : claB (betterC m vals) x = true ↔ if m.goal = 1 then valAt x m.var ≤ valAt vals m.var - 1 else valAt vals m.var + 1 ≤ valAt x m.var := by
  unfold betterC
  rcases hg with hg | hg
  · rw [if_pos hg, if_pos hg]
    unfold claB
    simp only [List.any_cons, List.any_nil, Bool.or_false]
    unfold litV valAt
    simp
  · rw [if_neg (by omega), if_pos hg, if_neg (by omega)]
    unfold claB
    simp only [List.any_cons, List.any_nil, Bool.or_false]
    unfold litV valAt
    simp
theorem sol_range (m : Mod) (hm : checkM m = 0) (x : List Int) (h : Sol m x) : (varAt m.vars m.var.toNat).lo ≤ valAt x m.var ∧ valAt x m.var ≤ (varAt m.vars m.var.toNat).hi := by
  obtain ⟨h1, h2, _⟩ := goal_var m hm
  have := h.1.2 m.var.toNat (by omega)
  rwa [Int.toNat_of_nonneg h1] at this
theorem climb_room (m : Mod) (hm : checkM m = 0) (hg : m.goal = 1 ∨ m.goal = 2) (R : Int × List Int × Sk) (h1 : R.1 = 1) (hs : Sol m R.2.1) : roomR m (nextP m.vars (ptsM m) (moreSk m R)) < roomR m R := by
  have h0 : 0 < roomR m R := by
    unfold roomR
    rw [if_pos h1]
    split <;> omega
  by_cases hn : (nextP m.vars (ptsM m) (moreSk m R)).1 = 1
  · obtain ⟨k1, k2⟩ := next_found m hm (moreSk m R) hn
    have hh := k2 _ (List.mem_append_right _ (List.mem_singleton.2 rfl))
    rw [held_hits m.vars (vars_okP m hm) _ k1.1 _ (better_vars m hm _)] at hh
    rw [better_claB m _ _ hg] at hh
    have r1 := sol_range m hm _ k1
    have r2 := sol_range m hm _ hs
    unfold roomR
    rw [if_pos hn, if_pos h1]
    split
    · rename_i hq
      rw [if_pos hq] at hh
      omega
    · rename_i hq
      rw [if_neg hq] at hh
      omega
  · unfold roomR
    rw [if_neg hn]
    exact h0
theorem climb_fuel (m : Mod) (hm : checkM m = 0) (hg : m.goal = 1 ∨ m.goal = 2) : ∀ (f g : Nat) (R : Int × List Int × Sk) (b : List Int), (R.1 = 1 → Sol m R.2.1) → roomR m R < f → roomR m R < g → climbN m f R b = climbN m g R b
  | 0, g, R, b, _, hf, _ => by omega
  | f + 1, 0, R, b, _, _, hg => by omega
  | f + 1, g + 1, R, b, hs, hf, hg' => by
    unfold climbN
    split
    · rename_i h1
      have := climb_room m hm hg R h1 (hs h1)
      exact climb_fuel m hm hg f g _ _ (fun h => (next_found m hm _ h).1) (by omega) (by omega)
    · rfl
theorem climb_step (m : Mod) (hm : checkM m = 0) (hg : m.goal = 1 ∨ m.goal = 2) (R : Int × List Int × Sk) (b : List Int) (hs : R.1 = 1 → Sol m R.2.1) : climbP m R b = if R.1 = 1 then climbP m (nextP m.vars (ptsM m) (moreSk m R)) R.2.1
    else if R.1 = 3 then ⟨3, [], []⟩ else if 0 < b.length then ⟨1, b, R.2.2.proof⟩ else ⟨R.1, b, R.2.2.proof⟩ := by
  conv => lhs; unfold climbP climbN
  split
  · rename_i h1
    have := climb_room m hm hg R h1 (hs h1)
    exact climb_fuel m hm hg _ _ _ _ (fun h => (next_found m hm _ h).1) (by omega) (by omega)
  · rfl
/-- What a searcher keeps of its bounds. -/
theorem next_ok (vs : List MVar) (hv : VarsOk vs) (pt : List (List Nat)) : ∀ (N : Nat) (S : Sk), openSk vs S < N → SkO vs S → (nextP vs pt S).1 = 1 → SkO vs (nextP vs pt S).2.2 ∧ (nextP vs pt S).2.2.cs.length + (nextP vs pt S).2.2.fuel = S.cs.length + S.fuel
  | 0, S, h, _ => by omega
  | N + 1, S, h, hs => by
    rw [next_step vs hv]
    split
    · split
      · rename_i h0
        intro h1
        obtain ⟨k1, k2⟩ := next_ok vs hv pt N _ (by have := turn_open vs pt S h0; omega) (turn_ok vs pt S hs h0) h1
        refine ⟨k1, k2.trans ?_⟩
        have hf := turn_fuel vs pt S h0
        unfold turnP at h0 hf ⊢
        split
        · rename_i hc; rw [if_pos hc] at h0
        · rename_i hc0
          rw [if_neg hc0] at h0 hf
          split
          · rename_i hc; rw [if_pos hc] at h0; cases h0
          · rename_i hc1
            rw [if_neg hc1] at h0 hf
            split
            · rename_i hc; rw [if_pos hc] at h0; cases h0
            · simp only [List.length_append, List.length_singleton]
              omega
      · rename_i h0
        intro h1
        simp only at h1
        unfold turnP at h0 h1
        split at h1
        · cases h1
        · split at h1
          · cases h1
          · split at h1
            · cases h1
            · cases h1
    · split
      · exact fun _ => ⟨hs, rfl⟩
      · rename_i hf
        intro h1
        exact next_ok vs hv pt N _ (by have := dec_open vs hv pt S hf; omega) (dec_ok vs hv pt S hs hf) h1
theorem next_ok1 (vs : List MVar) (hv : VarsOk vs) (pt : List (List Nat)) (S : Sk) (hs : SkO vs S) (h : (nextP vs pt S).1 = 1) : SkO vs (nextP vs pt S).2.2 ∧ (nextP vs pt S).2.2.cs.length + (nextP vs pt S).2.2.fuel = S.cs.length + S.fuel := next_ok vs hv pt _ S (Nat.lt_succ_self _) hs h
theorem room_le (m : Mod) (hm : checkM m = 0) (R : Int × List Int × Sk) (hs : R.1 = 1 → Sol m R.2.1) : roomR m R ≤ 6 := by
  unfold roomR
  by_cases h1 : R.1 = 1
  · rw [if_pos h1]
    have r := sol_range m hm _ (hs h1)
    have h6 := (vars_okP m hm).2 m.var.toNat
    unfold sizeV at h6
    split <;> omega
  · rw [if_neg h1]; omega

/-- x is no better than vals. -/
def NoBetter (m : Mod) (vals x : List Int) : Prop := if m.goal = 1 then valAt vals m.var ≤ valAt x m.var else valAt x m.var ≤ valAt vals m.var
/-- WHAT IS BEST: at each step all clauses hold of all values that are better than those at hand. -/
theorem climb_sound (m : Mod) (hm : checkM m = 0) (hg : m.goal = 1 ∨ m.goal = 2) : ∀ (N : Nat) (S : Sk) (b : List Int), roomR m (nextP m.vars (ptsM m) S) < N → Sound m (fun x => b = [] ∨ ¬ NoBetter m b x) S → (b = [] ∨ (Sol m b ∧ heldP m.vars (betterC m b) ∈ S.cs)) →
    ((climbP m (nextP m.vars (ptsM m) S) b).verdict = 1 → ∀ x, Sol m x → NoBetter m (climbP m (nextP m.vars (ptsM m) S) b).values x) ∧
    ((climbP m (nextP m.vars (ptsM m) S) b).verdict = 2 → ∀ x, ¬ Sol m x) ∧
    ((climbP m (nextP m.vars (ptsM m) S) b).verdict = 1 → Sol m (climbP m (nextP m.vars (ptsM m) S) b).values) ∧
    ((climbP m (nextP m.vars (ptsM m) S) b).verdict = 1 ∨ (climbP m (nextP m.vars (ptsM m) S) b).verdict = 2 ∨ (climbP m (nextP m.vars (ptsM m) S) b).verdict = 3)
  | 0, S, b, h, _, _ => by omega
  | N + 1, S, b, h, hs, hb => by
    obtain ⟨n1, n2, n3, n4, n5⟩ := next_sound m hm _ _ S (Nat.lt_succ_self _) hs
    rw [climb_step m hm hg _ _ (fun h => (n2 h).1)]
    split
    · rename_i h1
      obtain ⟨k1, k2, k3⟩ := n2 h1
      refine climb_sound m hm hg N (moreSk m (nextP m.vars (ptsM m) S)) _ (by have := climb_room m hm hg _ h1 k1; omega) (fun x hx hn c hc => ?_) (Or.inr ⟨k1, List.mem_append_right _ (List.mem_singleton.2 rfl)⟩)
      have hne : (nextP m.vars (ptsM m) S).2.1 ≠ [] := fun he => by
        have h1 := k1.1.1
        rw [he] at h1
        have := vars_one m hm
        simp at h1
        omega
      have hbx : ¬ NoBetter m (nextP m.vars (ptsM m) S).2.1 x := by
        rcases hn with hn | hn
        · exact absurd hn hne
        · exact hn
      rcases List.mem_append.1 hc with hc | hc
      · refine n1 x hx ?_ c hc
        rcases hb with hb | ⟨hb1, hb2⟩
        · exact Or.inl hb
        · right
          have hh := k2 _ (k3 _ hb2)
          rw [held_hits m.vars (vars_okP m hm) _ k1.1 _ (better_vars m hm _), better_claB m _ _ hg] at hh
          intro hnb
          unfold NoBetter at hbx hnb
          by_cases hq : m.goal = 1
          · rw [if_pos hq] at hh hbx hnb; omega
          · rw [if_neg hq] at hh hbx hnb; omega
      · rw [List.mem_singleton.1 hc, held_hits m.vars (vars_okP m hm) _ hx.1 _ (better_vars m hm _), better_claB m _ _ hg]
        unfold NoBetter at hbx
        by_cases hq : m.goal = 1
        · rw [if_pos hq] at hbx ⊢; omega
        · rw [if_neg hq] at hbx ⊢; omega
    · rename_i h1
      split
      · exact ⟨(fun h => by cases h), (fun h => by cases h), (fun h => by cases h), Or.inr (Or.inr rfl)⟩
      · rename_i h3
        have h2 : (nextP m.vars (ptsM m) S).1 = 2 := by omega
        have hno := n3 h2
        split
        · rename_i hl
          rcases hb with hb | ⟨hb1, hb2⟩
          · rw [hb] at hl; cases hl
          · refine ⟨fun _ x hx => ?_, (fun h => by cases h), fun _ => hb1, Or.inl rfl⟩
            apply Classical.byContradiction
            intro hn
            exact hno x hx (Or.inr hn)
        · rename_i hl
          have hbn : b = [] := List.length_eq_zero_iff.1 (by omega)
          refine ⟨fun h => ?_, fun _ x hx => hno x hx (Or.inl hbn), fun h => ?_, Or.inr (Or.inl h2)⟩
          · simp only at h
            omega
          · simp only at h
            omega
end Go.Proofs.YtdjbejlbmaiocagGreatDoor
