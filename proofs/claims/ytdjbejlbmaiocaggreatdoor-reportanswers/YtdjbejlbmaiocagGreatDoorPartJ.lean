/-
  PART 10 of what the proof leans on (SekC, SekA, SekD, SekG, SekE, EnoF, FolE, SekF).
-/
import Derived.Test.YtdjbejlbmaiocagGreatDoorPartI
import Derived.Maps.OwnSet
import Derived.WalkKit
import Derived.Lib.AppendZerosOnto
import Derived.Lib.SliceRun
/-
  WALK: package seek: prove.
-/
namespace Go.Proofs.YtdjbejlbmaiocagGreatDoor
open Go.RowKit Go.Maps

theorem prove_snoc (vs : List MVar) (t : MStep) : ∀ (a p : List MStep), proveF vs (a ++ [t]) p = (if ((proveF vs a p).map fun x => heldP vs x.cla).contains (heldP vs t.cla) then proveF vs a p else proveF vs a p ++ [t])
  | [], p => by simp [proveF]
  | x :: r, p => by rw [List.cons_append]; unfold proveF; exact prove_snoc vs t r _
theorem prove_len (vs : List MVar) : ∀ (a p : List MStep), (proveF vs a p).length ≤ p.length + a.length
  | [], p => by simp [proveF]
  | x :: r, p => by
    unfold proveF
    have := prove_len vs r (if (p.map fun x => heldP vs x.cla).contains (heldP vs x.cla) then p else p ++ [x])
    have h2 : (if (p.map fun x => heldP vs x.cla).contains (heldP vs x.cla) then p else p ++ [x]).length ≤ p.length + 1 := by split <;> simp
    rw [List.length_cons]
    omega
theorem steps_wide (L : List SV) : ∀ c ∈ L.map stepCs, c.length = 3 := by
  intro c hc
  obtain ⟨x, _, rfl⟩ := List.mem_map.1 hc
  rfl
theorem st_cell {base : Nat} {w : World} {a : Option Addr} {c : Nat} {T : List SV} (h : StOwn base w (.slice a T.length c) T) (i : Nat) (x : SV) (hi : T[i]? = some x) : ∃ b off, a = some ⟨b, off, none⟩ ∧ b < w.heap.size ∧
    w.cell? ⟨b, off + i * 3, none⟩ = some (.int .i64 x.1.kind) ∧ w.cell? ⟨b, off + i * 3 + 1, none⟩ = some (.int .i64 x.1.con) ∧ w.cell? ⟨b, off + i * 3 + 2, none⟩ = some x.2 := by
  rcases h.1.2 with ⟨he, hn⟩ | ⟨g, cap, cur, he, _, hh, _⟩
  · have := (List.getElem?_eq_some_iff.1 hi).1
    omega
  · cases he
    have hc : ∀ (j : Nat) (u : Value), j < 3 → (stepCs x)[j]? = some u → w.cell? ⟨g, i * 3 + j, none⟩ = some u := fun j u hj hu => by
      have hil := (List.getElem?_eq_some_iff.1 hi).1
      have h3 : (T.map stepCs).flatten[i * 3 + j]? = some u := by
        have h4 : (T.map stepCs)[i]? = some (stepCs x) := by rw [List.getElem?_map, hi]; rfl
        have h5 := flat_drop 3 i (T.map stepCs) (steps_wide T)
        have h6 : (T.map stepCs).drop i = stepCs x :: (T.map stepCs).drop (i + 1) := by
          have hl : i < (T.map stepCs).length := by simpa using hil
          rw [List.drop_eq_getElem_cons hl]
          congr 1
          rw [List.getElem?_eq_getElem hl] at h4
          exact Option.some.inj h4
        have h7 : ((T.map stepCs).flatten.drop (i * 3))[j]? = some u := by
          rw [h5, h6, List.flatten_cons, List.getElem?_append_left (by simpa [stepCs] using hj)]
          exact hu
        rwa [List.getElem?_drop] at h7
      have hlt := (List.getElem?_eq_some_iff.1 h3).1
      rw [h.1.1] at hlt
      rw [h.1.cellAt (i * 3 + j) hlt]
      exact h3
    refine ⟨g, 0, rfl, (Array.getElem?_eq_some_iff.1 hh).1, ?_, ?_, ?_⟩
    · have := hc 0 _ (by omega) rfl
      simpa using this
    · have := hc 1 _ (by omega) rfl
      simpa using this
    · have := hc 2 _ (by omega) rfl
      simpa using this
def XP (s mb : Nat) (prv : Value) (k : Nat) : Prop := k = s ∨ k = mb ∨ prv.ownBlock = some k
structure PvI (W w : World) (s r mb : Nat) (sv pv cv prv pav : Value) (vs : List MVar) (S : Sk) (base : Nat) (stv : Value) (T : List SV) (k : Nat) (wr : World) (prv' : Value) (L' : List SV) : Prop where
  sk : SkD W wr s r mb sv pv cv prv' pav L' ((proveF vs ((T.take k).map (·.1)) S.proof).map fun x => heldP vs x.cla) ⟨S.cs, S.fuel, proveF vs ((T.take k).map (·.1)) S.proof, S.path⟩
  st : StOwn base wr stv T
  ap : ∀ g, prv'.ownBlock = some g → stv.ownBlock ≠ some g
  fr : Fr (XP s mb prv) w wr
  hq : prv'.ownBlock = prv.ownBlock ∨ ∀ g, prv'.ownBlock = some g → w.heap.size ≤ g
  pb : ∀ g, pav.ownBlock = some g → g < base
  tf : TFr w wr
theorem PvI.below {W w : World} {s r mb : Nat} {sv pv cv prv pav : Value} {vs : List MVar} {S : Sk} {base : Nat} {stv : Value} {T : List SV} {k : Nat} {wr w2 : World} {prv' : Value} {L' : List SV} (h : PvI W w s r mb sv pv cv prv pav vs S base stv T k wr prv' L') (hb : Below wr.heap.size wr w2) : PvI W w s r mb sv pv cv prv pav vs S base stv T k w2 prv' L' :=
  ⟨h.sk.below hb, h.st.below hb, h.ap, h.fr.trans (Fr.below hb), h.hq, h.pb, h.tf.trans (TFr.below hb)⟩

set_option maxHeartbeats 6400000 in
set_option maxRecDepth 100000 in
theorem prove_any (vs : List MVar) (hva : VarsAll vs) (pt : List (List Nat)) (W : World) (s r mb : Nat) (sv pv cv prv pav : Value) (hB : SkB W s r mb sv pv vs pt) (L : List SV) (S : Sk) (hS : S.proof.length ≤ 6000) (T : List SV) (hT : T.length ≤ 1500) (base : Nat) (stv : Value) (w : World)
    (hD : SkD W w s r mb sv pv cv prv pav L (S.proof.map fun x => heldP vs x.cla) S) (hst : StOwn base w stv T) (hbase : W.heap.size ≤ base) (hpb : ∀ g, pav.ownBlock = some g → g < base) (hqb : ∀ g, prv.ownBlock = some g → g < base) :
    Calls Tryz.prog 194 #[.pointer (some ⟨s, 0, none⟩), stv] w fun e w' => e = .returned (.tuple #[]) ∧ ∃ prv' L', SkD W w' s r mb sv pv cv prv' pav L' ((proveF vs (T.map (·.1)) S.proof).map fun x => heldP vs x.cla) ⟨S.cs, S.fuel, proveF vs (T.map (·.1)) S.proof, S.path⟩ ∧ Fr (XP s mb prv) w w' ∧ TFr w w' := by
  obtain ⟨i0, hi0, hz0, hz1, hz2⟩ := info_parts Tryz.infoStepF
  have HVO : Hid (VarsAll vs) := hva
  have HSB : Hid (SkB W s r mb sv pv vs pt) := hB
  have HPL : Hid (∀ k, (proveF vs ((T.take k).map (·.1)) S.proof).length ≤ 7500) := fun k => by
    have := prove_len vs ((T.take k).map (·.1)) S.proof
    rw [List.length_map, List.length_take] at this
    omega
  have HALL : Hid ((T.take T.length).map (·.1) = T.map (·.1)) := by show _ = _; rw [List.take_length]
  have HI : Hid (PvI W w s r mb sv pv cv prv pav vs S base stv T 0 w prv L) := by
    refine ⟨hD, hst, fun g hg he => ?_, Fr.refl _ _, Or.inl rfl, hpb, TFr.refl _⟩
    have := hqb g hg
    have := (hst.1.lt g he).1
    omega
  obtain ⟨asv, csv, hsv⟩ : ∃ a c, sv = .slice a vs.length c := by obtain ⟨a, c, h, _⟩ := (hB.keep w hD.fr).1; exact ⟨a, c, h⟩
  obtain ⟨ast, cst, rfl⟩ := own_form hst.1
  have hTm : T.length ≤ 1500 := hT
  have HBA : Hid (W.heap.size ≤ base) := hbase
  subst hsv
  clear hD hst hva hB hpb hqb hT hbase
  go_enter Tryz.func194, Tryz.ntmps194
  go_wp2_with fail
  go_loopw [11] (fun i wr => ∃ (k : Nat) (prv' : Value) (L' : List SV), k ≤ T.length ∧ i = .int .i64 k ∧ PvI W w s r mb (.slice asv vs.length csv) pv cv prv pav vs S base (.slice ast T.length cst) T k wr prv' L') (fun i _ => T.length - (intOf i).toNat)
  case atStart => exact ⟨0, prv, L, by omega, rfl, HI.out⟩
  case round =>
    obtain ⟨k, prv', L', hk, rfl, hI⟩ := hrel
    have HJ : Hid (PvI W w s r mb (.slice asv vs.length csv) pv cv prv pav vs S base (.slice ast T.length cst) T k wr prv' L') := hI
    clear hI HI
    by_cases hlt : k < T.length
    · obtain ⟨x, hx⟩ : ∃ x, T[k]? = some x := ⟨T[k], by simp [hlt]⟩
      obtain ⟨b, off, ha, hbl, c0, c1, c2⟩ := st_cell HJ.out.st k x hx
      subst ha
      obtain ⟨⟨xk, xc, xcl⟩, xv⟩ := x
      have HXL : Hid (LOwn base wr xv xcl) := HJ.out.st.2 _ (List.mem_of_getElem? hx)
      obtain ⟨axv, cxv, rfl⟩ := own_form (show wr.ownsRow _ _ _ _ _ _ from HXL.out)
      simp only at c0 c1 c2
      have HP1 : Hid (proveF vs ((T.take (k + 1)).map (·.1)) S.proof = (if ((proveF vs ((T.take k).map (·.1)) S.proof).map fun x => heldP vs x.cla).contains (heldP vs xcl) then proveF vs ((T.take k).map (·.1)) S.proof else proveF vs ((T.take k).map (·.1)) S.proof ++ [⟨xk, xc, xcl⟩])) := by
        show _ = _
        rw [List.take_add_one, hx, List.map_append]
        exact prove_snoc vs _ _ _
      have hpl := HPL.out k
      clear hx
      go_wp2_with fail
      obtain ⟨Y, hY⟩ : ∃ Y, wr.alloc (.cells #[.int .i64 xk, .int .i64 xc, .slice axv xcl.length cxv] 93) = Y := ⟨_, rfl⟩
      rw [hY]
      have hBY : Below wr.heap.size wr Y := by rw [← hY]; exact below_alloc _ _
      have HJY : Hid (PvI W w s r mb (.slice asv vs.length csv) pv cv prv pav vs S base (.slice (some ⟨b, off, none⟩) T.length cst) T k Y prv' L') := HJ.out.below hBY
      have HXY : Hid (LOwn base Y (.slice axv xcl.length cxv) xcl) := own_below (show wr.ownsRow _ _ _ _ _ _ from HXL.out) hBY
      obtain ⟨q, hq⟩ : ∃ q, wr.heap.size = q := ⟨_, rfl⟩
      have d0 : Y.cell? ⟨q, 0, none⟩ = some (.int .i64 xk) := by rw [← hY, ← hq]; simp
      have d1 : Y.cell? ⟨q, 1, none⟩ = some (.int .i64 xc) := by rw [← hY, ← hq]; simp
      have d2 : Y.cell? ⟨q, 2, none⟩ = some (.slice axv xcl.length cxv) := by rw [← hY, ← hq]; simp
      have dl : q < Y.heap.size := by rw [← hY, ← hq]; simp
      rw [hq]
      have HQW : Hid (W.heap.size ≤ q) := by rw [← hq]; exact HJ.out.sk.fr.size
      have HJQ : Hid (∀ g, prv'.ownBlock = some g → g < q) := fun g hg => by rw [← hq]; exact (HJ.out.sk.prf.1.lt g hg).2
      obtain ⟨s0, s1, s2, s3, s4, s5, s6⟩ := HJY.out.sk.cells
      obtain ⟨h, hh⟩ : ∃ h, heldP vs xcl = h := ⟨_, rfl⟩
      have HH36 : Hid (h < 2 ^ 36) := by rw [← hh]; exact of_lt vs HVO.out.1 _
      rw [hh] at HP1
      have HHE : Hid (∀ Z, Below Y.heap.size Y Z → Calls Tryz.prog 128 #[.slice asv vs.length csv, .slice axv xcl.length cxv] Z fun e w' => e = .returned (.int .u64 (h : Int)) ∧ Below Z.heap.size Z w') := fun Z hZ => by
        rw [← hh]
        exact held_any vs HVO.out xcl _ _ Z ((HSB.out.keep _ ((HJY.out.below hZ).sk.fr)).1) (LOwn.arg (own_below (show Y.ownsRow _ _ _ _ _ _ from HXY.out) hZ))
      have HHH : Hid (heldP vs xcl = h) := hh
      clear hh hY hBY HJ HXL c0 c1 c2 hbl hq
      go_region_law
        (first
          | (rw [if_pos (by rfl)]; go_simp; go_at_call 128; refine (HHE.out _ (Below.refl _ _).drew).mono ?_; rintro e w3 ⟨rfl, hb3⟩; have hB3 : Below Y.heap.size Y w3 := (Below.refl _ _).drew.trans hb3; dsimp only))
      all_goals
        have HJ3 : Hid (PvI W w s r mb (.slice asv vs.length csv) pv cv prv pav vs S base (.slice (some ⟨b, off, none⟩) T.length cst) T k w3 prv' L') := HJY.out.below hB3
        have HX3 : Hid (LOwn base w3 (.slice axv xcl.length cxv) xcl) := own_below (show Y.ownsRow _ _ _ _ _ _ from HXY.out) hB3
        have e0 := (hB3.cell (p := ⟨q, 0, none⟩) dl).trans d0
        have e1 := (hB3.cell (p := ⟨q, 1, none⟩) dl).trans d1
        have e2 := (hB3.cell (p := ⟨q, 2, none⟩) dl).trans d2
        have el : q < w3.heap.size := Nat.lt_of_lt_of_le dl hB3.size
        have hkey := key_part h HH36.out
        clear d0 d1 d2 dl s0 s1 s2 s3 s4 s5 s6 hb3 hB3 HJY HXY HHE
        obtain ⟨s0, s1, s2, s3, s4, s5, s6⟩ := HJ3.out.sk.cells
        have hmap := HJ3.out.sk.map
        obtain ⟨P, hP⟩ : ∃ P, proveF vs ((T.take k).map (·.1)) S.proof = P := ⟨_, rfl⟩
        rw [hP] at HP1 hmap hpl
        cases hc : (P.map fun x => heldP vs x.cla).contains h
        · rw [hc] at HP1
          have hh : Maps.has (setU (H := Unit) (P.map fun x => heldP vs x.cla)) (.int .u64 (h : Int)) = false := by rw [has_setU]; exact hc
          clear hc
          go_wp2_with (first
            | (at_lookup; refine wpList_lookup_own_unit _ rfl _ _ 118 rfl 183 211 Tryz.partKey Tryz.underThere (Tryz.zeroUnit _) mb _ _ rfl hmap _ _ rfl hkey ?_)
            | (at_mapUpdate; refine wpList_mapUpdate_own _ rfl _ _ _ 118 rfl 183 211 Tryz.partKey Tryz.underThere (unitElem (H := Unit)) mb _ _ rfl (hmap.alloc _) (by unfold maxLen; rw [List.length_map]; omega) _ _ _ rfl rfl hkey _ [] unitElem_mk ?_; intro w5 hown5 hg5)
            | fail)
          have hsk := HJ3.out.sk
          rw [hP] at hsk
          have HK5 : Hid (SkD W w5 s r mb (.slice asv vs.length csv) pv cv prv' pav L' ((P.map fun x => heldP vs x.cla) ++ [h]) ⟨S.cs, S.fuel, P, S.path⟩) := (hsk.below (below_alloc _ _)).key h _ rfl hg5 hown5
          have hmlt : mb < w3.heap.size := hmap.lt
          have hqm : some q ≠ some mb := fun he => by
            have h1 := HSB.out.mlt
            have h2 := HQW.out
            have := Option.some.inj he
            omega
          have f0 : w5.cell? ⟨q, 0, none⟩ = some (.int .i64 xk) := hg5.cell (((below_alloc _ _).cell (p := ⟨q, 0, none⟩) el).trans e0) hqm
          have f1 : w5.cell? ⟨q, 1, none⟩ = some (.int .i64 xc) := hg5.cell (((below_alloc _ _).cell (p := ⟨q, 1, none⟩) el).trans e1) hqm
          have f2 : w5.cell? ⟨q, 2, none⟩ = some (.slice axv xcl.length cxv) := hg5.cell (((below_alloc _ _).cell (p := ⟨q, 2, none⟩) el).trans e2) hqm
          have fl : q < w5.heap.size := by have := hg5.size; simp at this; omega
          have km : ∀ {B : Nat} {e : TypeId} {n1 n2 : Nat} {v : Value} {xs : List Value}, w3.ownsRow B e n1 v n2 xs → w5.ownsRow B e n1 v n2 xs := fun ho => (ho.alloc (.cells #[] 211)).kept hg5 (Or.inr (own_not_map (ho.alloc (.cells #[] 211)) (hmap.alloc (.cells #[] 211))))
          have HX5 : Hid (LOwn base w5 (.slice axv xcl.length cxv) xcl) := km HX3.out
          have HT5 : Hid (StOwn base w5 (.slice (some ⟨b, off, none⟩) T.length cst) T) := ⟨km HJ3.out.st.1, fun y hy => km (HJ3.out.st.2 y hy)⟩
          have HF5 : Hid (Fr (XP s mb prv) w w5) := (HJ3.out.fr.alloc _).grown hg5 (fun k hk => Or.inl (Or.inr (Or.inl (Option.some.inj hk).symm)))
          have HTF5 : Hid (TFr w w5) := (HJ3.out.tf.trans (TFr.below (below_alloc _ _))).trans (TFr.map (hmap.alloc _) hg5)
          have HAP : Hid (∀ g, prv'.ownBlock = some g → (Value.slice (some ⟨b, off, none⟩) T.length cst).ownBlock ≠ some g) := HJ3.out.ap
          have HHQ : Hid (prv'.ownBlock = prv.ownBlock ∨ ∀ g, prv'.ownBlock = some g → w.heap.size ≤ g) := HJ3.out.hq
          have HPB : Hid (∀ g, pav.ownBlock = some g → g < base) := HJ3.out.pb
          have hLP : L'.length ≤ 7500 := by have h9 := hsk.prfE; simp only at h9; rw [← h9, List.length_map] at hpl; exact hpl
          clear hg5 hown5 hmap km hsk hkey hh s0 s1 s2 s3 s4 s5 s6 e0 e1 e2 el HJ3 HX3 hqm hmlt
          obtain ⟨apr, cpr, rfl⟩ := own_form HK5.out.prf.1
          obtain ⟨s0, s1, s2, s3, s4, s5, s6⟩ := HK5.out.cells
          have hWs : W.heap.size ≤ w5.heap.size := HK5.out.fr.size
          have hop : w5.ownsRow W.heap.size 93 3 (.slice apr L'.length cpr) L'.length (L'.map stepCs).flatten := HK5.out.prf.1
          go_wp2_with fail
          go_region_law
            (first
              | (rw [if_pos (by rfl)]; refine wp_append_own_at _ _ _ 27 rfl W.heap.size 93 i0 _ 3 40 Tryz.underStepsF hi0 hz0 hz1 hz2 rfl (by decide) _ _ _ rfl (hop.drew.alloc _) ⟨w5.heap.size, 0, none⟩ 1 1 (stepCs (⟨xk, xc, xcl⟩, .slice axv xcl.length cxv)) rfl rfl (step_laid w5.drew (⟨xk, xc, xcl⟩, .slice axv xcl.length cxv)) (by intro u hu; simp [stepCs] at hu; rcases hu with rfl | rfl | rfl <;> rfl) ?_ ?_ ?_ ?_; (unfold maxLen; omega); omega; (simp; omega); intro v7 w7 hown7 hg7 hat7; obtain ⟨a7, c7, hv7⟩ := own_form hown7; subst hv7
                 have hbl7 := blk_grown (HK5.out.below ((Below.refl _ _).drew.alloc (Nat.le_refl _) _)).blkS hg7 (hop.drew.alloc _) (by decide)
                 have t3 : w7.cell? ⟨s, 3, none⟩ = some (.slice apr L'.length cpr) := blk9 hbl7 3 _ rfl
                 have z3 : w7.frozen? ⟨s, 3, none⟩ = false := frz9 hbl7 3
                 have l3 : s < w7.heap.size := (Array.getElem?_eq_some_iff.1 hbl7).1))
          all_goals
            have HJ4 : Hid (PvI W w s r mb (.slice asv vs.length csv) pv cv prv pav vs S base (.slice (some ⟨b, off, none⟩) T.length cst) T (k + 1) (w7.setCell ⟨s, 3, none⟩ (.slice a7 (L'.length + 1) c7)) (.slice a7 (L'.length + 1) c7) (L' ++ [(⟨xk, xc, xcl⟩, .slice axv xcl.length cxv)])) := by
              have hb5 : Below w5.heap.size w5 (w5.drew.alloc (.cells #[.int .i64 xk, .int .i64 xc, .slice axv xcl.length cxv] 93)) := (Below.refl _ _).drew.alloc (Nat.le_refl _) _
              have h2 : proveF vs ((T.take (k + 1)).map (·.1)) S.proof = P ++ [⟨xk, xc, xcl⟩] := by rw [HP1.out]; rfl
              have hx1 : LOwn base (w5.drew.alloc (.cells #[.int .i64 xk, .int .i64 xc, .slice axv xcl.length cxv] 93)) (.slice axv xcl.length cxv) xcl := own_below (show w5.ownsRow _ _ _ _ _ _ from HX5.out) hb5
              have hpush := HK5.out.push (x := (⟨xk, xc, xcl⟩, .slice axv xcl.length cxv)) hb5 (own_lower HBA.out hx1) (fun g hg he => by
                have := HPB.out g he
                have := (World.ownsRow.lt (show w5.ownsRow _ _ _ _ _ _ from HX5.out) g hg).1
                omega) hg7 rfl hown7
              have hT7 : StOwn base w7 (.slice (some ⟨b, off, none⟩) T.length cst) T := by
                have hT6 := HT5.out.below hb5
                refine ⟨hT6.1.kept hg7 ?_, fun y hy => own_grown (hT6.2 y hy) hg7 (hop.drew.alloc _) (by decide)⟩
                cases hpo : (Value.slice (some ⟨b, off, none⟩) T.length cst).ownBlock with
                | none => exact Or.inl rfl
                | some g => exact Or.inr fun he => HAP.out g he.symm hpo
              refine ⟨?_, hT7.set hbl7 (by decide) (by decide) 3 _, fun g hg he => ?_, ?_, ?_, HPB.out, ((HTF5.out.trans (TFr.below hb5)).trans (TFr.grown (hop.drew.alloc _) hg7 tno_step)).trans (TFr.set hbl7 tno_sek 3 _)⟩
              · rw [h2, List.map_append]
                simp only [List.map_cons, List.map_nil, HHH.out]
                exact hpush
              · rcases hat7 with hat | hat
                · exact HAP.out g (hat.symm.trans hg) he
                · rw [hat] at hg
                  have := (HT5.out.1.lt g he).2
                  have := Option.some.inj hg
                  simp at this
                  omega
              · refine ((HF5.out.trans (Fr.below hb5)).grown hg7 (fun k hk => ?_)).setX (p := ⟨s, 3, none⟩) (Or.inl rfl) _
                rcases HHQ.out with hq | hq
                · exact Or.inl (Or.inr (Or.inr (hq.symm.trans hk)))
                · exact Or.inr (hq k hk)
              · rcases hat7 with hat | hat
                · rcases HHQ.out with hq | hq
                  · exact Or.inl (hat.trans hq)
                  · exact Or.inr fun g hg => hq g (hat.symm.trans hg)
                · refine Or.inr fun g hg => ?_
                  rw [hat] at hg
                  have := HF5.out.size
                  have := Option.some.inj hg
                  simp at this
                  omega
            go_wp2
            go_roundw
            case rel => exact ⟨k + 1, _, _, by omega, by go_num, HJ4.out⟩
            case measure => simp [intOf]; omega
        · rw [hc] at HP1
          have hh : Maps.has (setU (H := Unit) (P.map fun x => heldP vs x.cla)) (.int .u64 (h : Int)) = true := by rw [has_setU]; exact hc
          clear hc
          go_wp2_with (first
            | (at_lookup; refine wpList_lookup_own_unit _ rfl _ _ 118 rfl 183 211 Tryz.partKey Tryz.underThere (Tryz.zeroUnit _) mb _ _ rfl hmap _ _ rfl hkey ?_)
            | fail)
          have HJ4 : Hid (PvI W w s r mb (.slice asv vs.length csv) pv cv prv pav vs S base (.slice (some ⟨b, off, none⟩) T.length cst) T (k + 1) (w3.alloc (.cells #[] 211)) prv' L') := by
            have h1 := HJ3.out.below (below_alloc w3 (.cells #[] 211))
            have h2 : proveF vs ((T.take (k + 1)).map (·.1)) S.proof = proveF vs ((T.take k).map (·.1)) S.proof := by rw [HP1.out, hP]; rfl
            refine ⟨?_, h1.st, h1.ap, h1.fr, h1.hq, h1.pb, h1.tf⟩
            rw [h2]
            exact h1.sk
          go_roundw
          case rel => exact ⟨k + 1, _, _, by omega, by go_num, HJ4.out⟩
          case measure => simp [intOf]; omega
    · have hkt : k = T.length := by omega
      subst hkt
      have HF := HJ.out.sk
      rw [HALL.out] at HF
      have HFR := HJ.out.fr
      have HTR := HJ.out.tf
      go_wp2
      go_end0
      exact ⟨rfl, _, _, HF, HFR, HTR⟩
end Go.Proofs.YtdjbejlbmaiocagGreatDoor
/-
  WALKS: package seek: fewest; slices.Index of literals.
-/
namespace Go.Proofs.YtdjbejlbmaiocagGreatDoor
open Go.RowKit

theorem fewF_step (s : Sto) (k : Nat) (x : List Int) (b : Int) (h : s[k]? = some x) : fewF s k (s.drop k) b = fewF s (k + 1) (s.drop (k + 1)) (if 1 < x.length ∧ (b < 0 ∨ x.length < (s.getD b.toNat []).length) then (k : Int) else b) := by
  have hk := (List.getElem?_eq_some_iff.1 h).1
  have : s[k] = x := by rw [List.getElem?_eq_getElem hk] at h; exact Option.some.inj h
  rw [List.drop_eq_getElem_cons hk, this]
  rfl

set_option maxHeartbeats 1600000 in
set_option maxRecDepth 100000 in
theorem fewest_any (s : Sto) (hs : s.length ≤ 6) (v : Value) (w : World) (hv : RArg w v s) :
    Calls Tryz.prog 135 #[v] w fun e w' => e = .returned (.int .i64 (fewestP s)) ∧ w' = w := by
  obtain ⟨a, c, rfl, hl, hr⟩ := hv
  have HV : Hid (∀ (i : Nat) (r : List Int), s[i]? = some r → ∃ b off x, a = some ⟨b, off, none⟩ ∧ b < w.heap.size ∧ w.cell? ⟨b, off + i, none⟩ = some x ∧ IArg w x r) := hr
  unfold maxLen at hl
  obtain ⟨hl1, hl⟩ := hl
  obtain ⟨R, hR⟩ : ∃ R, fewestP s = R := ⟨_, rfl⟩
  rw [hR]
  have HR : Hid (fewF s 0 (s.drop 0) (-1) = R) := hR
  clear hr hR
  go_enter Tryz.func135, Tryz.ntmps135
  go_wp2_with fail
  go_loopw [3, 8] (fun bv i wr => ∃ (k : Nat) (b : Int), k ≤ s.length ∧ i = .int .i64 k ∧ bv = .int .i64 b ∧ -1 ≤ b ∧ b < (s.length : Int) ∧ Hid (fewF s k (s.drop k) b = R) ∧ wr = w) (fun _ i _ => s.length - (intOf i).toNat)
  case atStart => exact ⟨0, -1, by omega, rfl, rfl, by omega, by omega, HR, rfl⟩
  case round =>
    obtain ⟨k, b, hk, rfl, rfl, hb0, hb1, hf, rfl⟩ := hrel
    by_cases hlt : k < s.length
    · obtain ⟨x, hx⟩ : ∃ x, s[k]? = some x := ⟨s[k], by simp [hlt]⟩
      have HF := hf.out
      rw [fewF_step s k x b hx] at HF
      obtain ⟨bb, off, y, hax, hlb, hc, a5, c5, rfl, ⟨hm5, hm6⟩, _⟩ := HV.out k x hx
      subst hax
      unfold maxLen at hm6
      by_cases h1 : 1 < x.length
      · have h1' : (1 : Int) < (x.length : Int) := by omega
        by_cases h2 : b < 0
        · rw [if_pos ⟨h1, Or.inl h2⟩] at HF
          have HF2 : Hid (fewF s (k + 1) (s.drop (k + 1)) (k : Int) = R) := HF
          clear HF hf hx
          go_wp2
          go_roundw
          case rel => exact ⟨k + 1, (k : Int), by omega, by go_num, rfl, by omega, by omega, HF2, trivial⟩
          case measure => simp [intOf]; omega
        · obtain ⟨bn, rfl⟩ : ∃ bn : Nat, b = (bn : Int) := ⟨b.toNat, by omega⟩
          have hbn : bn < s.length := by omega
          obtain ⟨z, hz⟩ : ∃ z, s[bn]? = some z := ⟨s[bn], by simp [hbn]⟩
          obtain ⟨bb2, off2, y2, hax2, hlb2, hc2, a6, c6, rfl, ⟨hn5, hn6⟩, _⟩ := HV.out bn z hz
          cases hax2
          unfold maxLen at hn6
          have hgz : s.getD ((bn : Int)).toNat [] = z := by rw [Int.toNat_natCast, List.getD_eq_getElem?_getD, hz]; rfl
          rw [hgz] at HF
          by_cases h3 : x.length < z.length
          · rw [if_pos ⟨h1, Or.inr h3⟩] at HF
            have h3' : (x.length : Int) < (z.length : Int) := by omega
            have HF2 : Hid (fewF s (k + 1) (s.drop (k + 1)) (k : Int) = R) := HF
            clear HF hf hx hz hgz
            go_wp2
            go_roundw
            case rel => exact ⟨k + 1, (k : Int), by omega, by go_num, rfl, by omega, by omega, HF2, trivial⟩
            case measure => simp [intOf]; omega
          · rw [if_neg (fun h => by rcases h.2 with h | h <;> omega)] at HF
            have h3' : ¬ (x.length : Int) < (z.length : Int) := by omega
            have HF2 : Hid (fewF s (k + 1) (s.drop (k + 1)) (bn : Int) = R) := HF
            clear HF hf hx hz hgz
            go_wp2
            go_roundw
            case rel => exact ⟨k + 1, (bn : Int), by omega, by go_num, rfl, by omega, by omega, HF2, trivial⟩
            case measure => simp [intOf]; omega
      · have h1' : ¬ (1 : Int) < (x.length : Int) := by omega
        rw [if_neg (fun h => h1 h.1)] at HF
        have HF2 : Hid (fewF s (k + 1) (s.drop (k + 1)) b = R) := HF
        clear HF hf hx
        go_wp2
        go_roundw
        case rel => exact ⟨k + 1, b, by omega, by go_num, rfl, by omega, by omega, HF2, trivial⟩
        case measure => simp [intOf]; omega
    · have HF2 : Hid (b = R) := by
        have := hf.out
        rw [List.drop_of_length_le (by omega)] at this
        exact this
      clear hf
      go_wp2
      go_ret
      exact ⟨ret_int HF2.out, rfl⟩

theorem idx_step (l : MLit) (c : Cla) (k : Nat) (x : MLit) (h : c[k]? = some x) : idxL l (c.drop k) = if sameL l x then 0 else idxL l (c.drop (k + 1)) + 1 := by
  have hk := (List.getElem?_eq_some_iff.1 h).1
  have : c[k] = x := by rw [List.getElem?_eq_getElem hk] at h; exact Option.some.inj h
  rw [List.drop_eq_getElem_cons hk, this]
  rfl

set_option maxHeartbeats 1600000 in
set_option maxRecDepth 100000 in
theorem lindex_any (l : MLit) (c : Cla) (hm : l ∈ c) (hlen : c.length ≤ 900) (v : Value) (w : World) (hv : LArg w v c) :
    Calls Tryz.prog 196 #[v, .agg #[.int .i64 l.var, .int .i64 l.op, .int .i64 l.n]] w fun e w' => e = .returned (.int .i64 (idxL l c : Nat)) ∧ Below w.heap.size w w' := by
  obtain ⟨a, cc, rfl, hl, hr⟩ := hv
  have HV : Hid (∀ (i : Nat) (t : MLit), c[i]? = some t → ∃ b off, a = some ⟨b, off, none⟩ ∧ b < w.heap.size ∧
    w.cell? ⟨b, off + i * 3, none⟩ = some (.int .i64 t.var) ∧ w.cell? ⟨b, off + i * 3 + 1, none⟩ = some (.int .i64 t.op) ∧ w.cell? ⟨b, off + i * 3 + 2, none⟩ = some (.int .i64 t.n)) := hr
  have HI : Hid (idxL l c < c.length) := idx_lt l c hm
  unfold maxLen at hl
  obtain ⟨hl1, hl⟩ := hl
  obtain ⟨R, hR⟩ : ∃ R, idxL l c = R := ⟨_, rfl⟩
  rw [hR] at HI ⊢
  have HR : Hid (0 + idxL l (c.drop 0) = R) := by show 0 + idxL l (c.drop 0) = R; rw [List.drop_zero, Nat.zero_add]; exact hR
  clear hr hR hm
  go_enter Tryz.func196, Tryz.ntmps196
  go_wp2_with fail
  go_loopw [8] (fun i wr => ∃ k : Nat, k ≤ c.length ∧ i = .int .i64 k ∧ Hid (k + idxL l (c.drop k) = R) ∧ Below (w.heap.size + 1) (w.alloc (.cells #[.int .i64 l.var, .int .i64 l.op, .int .i64 l.n] 88)) wr) (fun i _ => c.length - (intOf i).toNat)
  case atStart => exact ⟨0, by omega, rfl, HR, Below.refl _ _⟩
  case round =>
    obtain ⟨k, hk, rfl, hf, hbw⟩ := hrel
    have hbw2 : Below w.heap.size w wr := (below_alloc _ _).trans (hbw.mono (by omega))
    have g0 : wr.cell? ⟨w.heap.size, 0, none⟩ = some (.int .i64 l.var) := (hbw.cell (p := ⟨w.heap.size, 0, none⟩) (by simp)).trans (by simp)
    have g1 : wr.cell? ⟨w.heap.size, 1, none⟩ = some (.int .i64 l.op) := (hbw.cell (p := ⟨w.heap.size, 1, none⟩) (by simp)).trans (by simp)
    have g2 : wr.cell? ⟨w.heap.size, 2, none⟩ = some (.int .i64 l.n) := (hbw.cell (p := ⟨w.heap.size, 2, none⟩) (by simp)).trans (by simp)
    have HB : Hid (Below w.heap.size w wr) := hbw2
    have HBW : Hid (Below (w.heap.size + 1) (w.alloc (.cells #[.int .i64 l.var, .int .i64 l.op, .int .i64 l.n] 88)) wr) := hbw
    clear hbw hbw2
    by_cases hlt : k < c.length
    · obtain ⟨x, hx⟩ : ∃ x, c[k]? = some x := ⟨c[k], by simp [hlt]⟩
      have HF := hf.out
      rw [idx_step l c k x hx] at HF
      obtain ⟨bb, off, hax, hlb, c0, c1, c2⟩ := HV.out k x hx
      subst hax
      have e0 := (HB.out.cell (p := ⟨bb, off + k * 3, none⟩) hlb).trans c0
      have e1 := (HB.out.cell (p := ⟨bb, off + k * 3 + 1, none⟩) hlb).trans c1
      have e2 := (HB.out.cell (p := ⟨bb, off + k * 3 + 2, none⟩) hlb).trans c2
      clear c0 c1 c2
      by_cases hs : sameL l x = true
      · rw [if_pos hs] at HF
        have HF2 : Hid (k = R) := by show k = R; omega
        obtain rfl := (same_eq l x).1 hs
        clear HF hf hx hs
        go_wp2_with fail
        go_quiet (fail)
        go_wp2_with fail
        go_ret
        exact ⟨ret_int (by rw [HF2.out]), below_drewN HB.out _⟩
      · rw [if_neg hs] at HF
        have HF2 : Hid (k + 1 + idxL l (c.drop (k + 1)) = R) := by show _ = R; omega
        clear HF hf hx
        obtain ⟨lv, lo, ln⟩ := l
        obtain ⟨xv, xo, xn⟩ := x
        simp only at g0 g1 g2 e0 e1 e2 HF2 HR
        by_cases q1 : lv = xv
        · by_cases q2 : lo = xo
          · have q3 : ¬ ln = xn := fun h => hs ((same_eq _ _).2 (by rw [q1, q2, h]))
            subst q1 q2
            have q3' : (ln == xn) = false := by simpa using q3
            clear hs
            go_wp2_with fail
            go_quiet (fail)
            go_wp2
            go_roundw
            case rel => exact ⟨k + 1, by omega, by go_num, HF2, below_drewN HBW.out _⟩
            case measure => simp [intOf]; omega
          · have q2' : (lo == xo) = false := by simpa using q2
            subst q1
            clear hs
            go_wp2_with fail
            go_quiet (fail)
            go_wp2
            go_roundw
            case rel => exact ⟨k + 1, by omega, by go_num, HF2, below_drewN HBW.out _⟩
            case measure => simp [intOf]; omega
        · have q1' : (lv == xv) = false := by simpa using q1
          clear hs
          go_wp2_with fail
          go_quiet (fail)
          go_wp2
          go_roundw
          case rel => exact ⟨k + 1, by omega, by go_num, HF2, below_drewN HBW.out _⟩
          case measure => simp [intOf]; omega
    · exfalso
      have := hf.out
      have := HI.out
      omega
end Go.Proofs.YtdjbejlbmaiocagGreatDoor
/-
  WALK: package seek: turn.
-/
namespace Go.Proofs.YtdjbejlbmaiocagGreatDoor
open Go.RowKit Go.Maps

/-- Rules of a searcher, as Add has them. -/
theorem SkD.add {W w w' : World} {s r mb : Nat} {sv pv cv cv' prv pav : Value} {L : List SV} {M : List Nat} {S : Sk} {V : World} {h : Nat} (hD : SkD W w s r mb sv pv cv prv pav L M S) (hV : V.heap.size = W.heap.size) (hR : RulD V w' r sv pv cv' (S.cs ++ [h])) (hf : Fr (fun k => k = r ∨ cv.ownBlock = some k) w w') :
    SkD W w' s r mb sv pv cv' prv pav L M ⟨S.cs ++ [h], S.fuel, S.proof, S.path⟩ := by
  have hcr : cv.ownBlock ≠ some r := blk_not_own hD.own hD.blkR (by decide)
  have hcs : cv.ownBlock ≠ some s := blk_not_own hD.own hD.blkS (by decide)
  have nX : ∀ {B : Nat} {e : TypeId} {n1 n2 : Nat} {v : Value} {xs : List Value}, w.ownsRow B e n1 v n2 xs → e ≠ 183 → e ≠ 204 → w'.ownsRow B e n1 v n2 xs := fun ho he hr => by
    refine own_frx ho hf fun g hg hx => ?_
    rcases hx with hx | hx
    · subst hx
      exact blk_not_own ho hD.blkR (Ne.symm hr) hg
    · rcases own_apart ho hD.own he with h1 | h1
      · rw [h1] at hg; cases hg
      · exact h1 (hg.trans hx.symm)
  refine ⟨hR.blk, (hf.block s (Array.getElem?_eq_some_iff.1 hD.blkS).1 (fun hx => ?_)).trans hD.blkS, ?_, hR.lt36, ⟨nX hD.prf.1 (by decide) (by decide), fun x hx => nX (hD.prf.2 x hx) (by decide) (by decide)⟩, hD.prfE, ?_, nX hD.path (by decide) (by decide), hD.apart, ?_⟩
  · rcases hx with hx | hx
    · exact hD.rs hx.symm
    · exact hcs hx
  · rw [← hV]; exact hR.own
  · obtain ⟨es, clock, h1, h2⟩ := hD.map
    refine ⟨es, clock, (hf.block mb (Array.getElem?_eq_some_iff.1 h1).1 (fun hx => ?_)).trans h1, h2⟩
    rcases hx with hx | hx
    · exact hD.nr hx.symm
    · exact own_not_map hD.own hD.map hx
  · refine ⟨hf.os.trans hD.fr.os, hf.tape.trans hD.fr.tape, hf.output.trans hD.fr.output, Nat.le_trans hD.fr.size hf.size, fun k hk hn => (hf.block k (Nat.lt_of_lt_of_le hk hD.fr.size) (fun hx => ?_)).trans (hD.fr.block k hk hn)⟩
    rcases hx with hx | hx
    · exact hn (Or.inl hx)
    · have := (hD.own.lt k hx).1
      omega
/-- The world as it was, of the blocks that are old. -/
def oldW (w : World) (n : Nat) : World := { w with heap := w.heap.extract 0 n }
theorem oldW_size (w : World) (n : Nat) (h : n ≤ w.heap.size) : (oldW w n).heap.size = n := by
  show (w.heap.extract 0 n).size = n
  simp; omega
theorem oldW_fr {X : Nat → Prop} (w : World) (n : Nat) (h : n ≤ w.heap.size) : Fr X (oldW w n) w :=
  ⟨rfl, rfl, rfl, by rw [oldW_size w n h]; exact h, fun k hk _ => by
    rw [oldW_size w n h] at hk
    show w.heap[k]? = (w.heap.extract 0 n)[k]?
    rw [Array.getElem?_extract]
    simp
    intro h9
    omega⟩
theorem SkD.rulD {W w : World} {s r mb : Nat} {sv pv cv prv pav : Value} {L : List SV} {M : List Nat} {S : Sk} (hD : SkD W w s r mb sv pv cv prv pav L M S) : RulD (oldW w W.heap.size) w r sv pv cv S.cs :=
  ⟨hD.blkR, by rw [oldW_size w _ hD.fr.size]; exact hD.own, hD.lt36, oldW_fr w _ hD.fr.size⟩
theorem SkD.rul {W w : World} {s r mb : Nat} {sv pv cv prv pav : Value} {L : List SV} {M : List Nat} {S : Sk} {vs : List MVar} {pt : List (List Nat)} (hB : SkB W s r mb sv pv vs pt) (hD : SkD W w s r mb sv pv cv prv pav L M S) : Rul (oldW w W.heap.size) r sv pv vs pt := by
  refine ⟨by rw [oldW_size w _ hD.fr.size]; exact hB.rlt, fun w' hf => hB.keep w' ?_⟩
  have hz := oldW_size w _ hD.fr.size
  refine ⟨hf.os.trans hD.fr.os, hf.tape.trans hD.fr.tape, hf.output.trans hD.fr.output, by rw [← hz]; exact hf.size, fun k hk hn => ?_⟩
  have h1 := hf.block k (by rw [hz]; exact hk) (fun he => hn (Or.inl he))
  have h2 : (oldW w W.heap.size).heap[k]? = w.heap[k]? := by
    show (w.heap.extract 0 W.heap.size)[k]? = w.heap[k]?
    rw [Array.getElem?_extract]
    have h8 := hD.fr.size
    simp
    intro h9
    omega
  exact h1.trans (h2.trans (hD.fr.block k hk hn))

set_option maxHeartbeats 6400000 in
set_option maxRecDepth 100000 in
theorem turn_any (vs : List MVar) (hva : VarsAll vs) (hn1 : 1 ≤ vs.length) (pt : List (List Nat)) (W : World) (s r mb : Nat) (sv pv cv prv pav : Value) (hB : SkB W s r mb sv pv vs pt) (L : List SV) (S : Sk) (hS : S.proof.length ≤ 6000) (hcs : S.cs.length + S.fuel ≤ 1000) (hp : S.path.length ≤ 36) (hz : leftSk vs pt S = 0) (w : World)
    (hD : SkD W w s r mb sv pv cv prv pav L (S.proof.map fun x => heldP vs x.cla) S) :
    Calls Tryz.prog 133 #[.pointer (some ⟨s, 0, none⟩)] w fun e w' => e = .returned (.int .i64 (turnP vs pt S).1) ∧ TFr w w' ∧ ∃ cv' prv' pav' L', SkD W w' s r mb sv pv cv' prv' pav' L' ((turnP vs pt S).2.proof.map fun x => heldP vs x.cla) (turnP vs pt S).2 := by
  obtain ⟨R, hR⟩ : ∃ R, turnP vs pt S = R := ⟨_, rfl⟩
  rw [hR]
  unfold turnP at hR
  have HVO : Hid (VarsAll vs) := hva
  have HSB : Hid (SkB W s r mb sv pv vs pt) := hB
  have HD : Hid (SkD W w s r mb sv pv cv prv pav L (S.proof.map fun x => heldP vs x.cla) S) := hD
  obtain ⟨asv, csv, hsv⟩ : ∃ a c, sv = .slice a vs.length c := by obtain ⟨a, c, h, _⟩ := (hB.keep w hD.fr).1; exact ⟨a, c, h⟩
  subst hsv
  obtain ⟨apa, cpa, rfl⟩ := own_form hD.path
  obtain ⟨apr, cpr, rfl⟩ := own_form hD.prf.1
  obtain ⟨s0, s1, s2, s3, s4, s5, s6⟩ := hD.cells
  have z2 := hD.frz 2
  have hf300 : S.fuel ≤ 1000 := by omega
  by_cases h0 : S.fuel = 0
  · rw [if_pos h0] at hR
    subst hR
    have s3' : w.cell? ⟨s, 2, none⟩ = some (.int .i64 0) := by rw [s3, h0]; rfl
    clear s3 hD hB hva hz
    go_enter Tryz.func133, Tryz.ntmps133
    go_wp2
    go_ret
    exact ⟨rfl, TFr.refl _, _, _, _, _, HD.out⟩
  · rw [if_neg h0] at hR
    have HR := (show Hid _ from hR)
    obtain ⟨f, hf⟩ : ∃ f, S.fuel = f + 1 := ⟨S.fuel - 1, by omega⟩
    have hLA : leastA vs S.cs pt S.path = (leastC vs S.cs pt S.path, true) := by
      unfold leastA nothingP
      unfold leftSk at hz
      rw [hz]; rfl
    obtain ⟨C, hC⟩ : ∃ C, leastC vs S.cs pt S.path = C := ⟨_, rfl⟩
    have hCm : ∀ x ∈ C, x ∈ S.path := fun x hx => leastC_mem vs S.cs pt S.path x (by rw [hC]; exact hx)
    have hCl : C.length ≤ S.path.length := by rw [← hC]; exact leastC_len vs S.cs pt S.path
    rw [hC] at hLA HR
    have s3' : w.cell? ⟨s, 2, none⟩ = some (.int .i64 ((f : Int) + 1)) := by rw [s3, hf]; congr 2
    have HDY : Hid (SkD W (w.setCell ⟨s, 2, none⟩ (.int .i64 (f : Int))) s r mb (.slice asv vs.length csv) pv cv (.slice apr L.length cpr) (.slice apa S.path.length cpa) L (S.proof.map fun x => heldP vs x.cla) ⟨S.cs, f, S.proof, S.path⟩) := HD.out.burn f
    rw [hf] at HR
    have HTY : Hid (TFr w (w.setCell ⟨s, 2, none⟩ (.int .i64 (f : Int)))) := TFr.set HD.out.blkS tno_sek 2 _
    have hf1 : f ≤ 1000 := by omega
    have hcs1 : S.cs.length ≤ 1000 := by omega
    have HLE : Hid (∀ Z, SkD W Z s r mb (.slice asv vs.length csv) pv cv (.slice apr L.length cpr) (.slice apa S.path.length cpa) L (S.proof.map fun x => heldP vs x.cla) ⟨S.cs, f, S.proof, S.path⟩ →
        Calls Tryz.prog 193 #[.pointer (some ⟨r, 0, none⟩), .slice apa S.path.length cpa] Z fun e w' => ∃ x, e = .returned (.tuple #[x, .bool true]) ∧ LOwn Z.heap.size w' x C ∧ Below Z.heap.size Z w') := fun Z hZ => by
      have := rleast_any vs hva hn1 S.cs pt S.path (by omega) r _ pv cv _ Z (hZ.rules hB) (LOwn.arg hZ.path)
      rw [hLA] at this
      exact this
    clear s3 hD hB hva hz hf h0 hLA hC hcs HD
    go_enter Tryz.func133, Tryz.ntmps133
    go_wp2_with fail
    obtain ⟨Y, hY⟩ : ∃ Y, w.setCell ⟨s, 2, none⟩ (.int .i64 (f : Int)) = Y := ⟨_, rfl⟩
    rw [hY] at HDY HTY ⊢
    clear hY s0 s1 s2 s3' s4 s5 s6 z2
    obtain ⟨s0, s1, s2, s3, s4, s5, s6⟩ := HDY.out.cells
    go_region_law
      (first
        | (rw [if_pos (by rfl)]; go_simp; go_at_call 193; refine (HLE.out _ (HDY.out.below (Below.refl _ _).drew)).mono ?_; rintro e w2 ⟨x, rfl, hx2, hb2⟩; have hB2 : Below Y.heap.size Y w2 := (Below.refl _ _).drew.trans hb2; obtain ⟨ax, cx, hxf⟩ := own_form (show w2.ownsRow _ _ _ _ _ _ from hx2); subst hxf; dsimp only))
    all_goals
      have HD2 := (show Hid _ from HDY.out.below hB2)
      have HT2 : Hid (TFr w w2) := HTY.out.trans (TFr.below hB2)
      have HX2 : Hid (LOwn Y.heap.size w2 (.slice ax C.length cx) C) := hx2
      clear hx2 hb2 hB2 s0 s1 s2 s3 s4 s5 s6
      obtain ⟨s0, s1, s2, s3, s4, s5, s6⟩ := HD2.out.cells
      go_wp2_with fail
      refine (rsteps_any vs HVO.out hn1 pt S.cs (by omega) C (by omega) r _ pv cv _ w2 (HD2.out.rules HSB.out) (LOwn.arg HX2.out)).mono ?_
      rintro e w3 ⟨stv, T, rfl, hTe, hst, hTl, hb3⟩
      have HD3 := (show Hid _ from HD2.out.below hb3)
      have HT3' : Hid (TFr w w3) := HT2.out.trans (TFr.below hb3)
      have HX3 : Hid (LOwn Y.heap.size w3 (.slice ax C.length cx) C) := own_below (show w2.ownsRow _ _ _ _ _ _ from HX2.out) hb3
      have HT3 : Hid (StOwn w2.heap.size w3 stv T) := hst
      have HTE : Hid (T.map (·.1) = stepsA vs S.cs pt C) := hTe
      have HPB : Hid (∀ g, (Value.slice apa S.path.length cpa).ownBlock = some g → g < w2.heap.size) := fun g hg => (HD2.out.path.lt g hg).2
      have HQB : Hid (∀ g, (Value.slice apr L.length cpr).ownBlock = some g → g < w2.heap.size) := fun g hg => (HD2.out.prf.1.lt g hg).2
      have HW2 : Hid (W.heap.size ≤ w2.heap.size) := HD2.out.fr.size
      obtain ⟨ast, cst, rfl⟩ := own_form hst.1
      clear hTe hst hb3 s0 s1 s2 s3 s4 s5 s6
      obtain ⟨s0, s1, s2, s3, s4, s5, s6⟩ := HD3.out.cells
      go_wp2_with fail
      refine (prove_any vs HVO.out pt W s r mb _ pv cv _ _ HSB.out L ⟨S.cs, f, S.proof, S.path⟩ hS T hTl w2.heap.size _ w3 HD3.out HT3.out HW2.out HPB.out HQB.out).mono ?_
      rintro e w4 ⟨rfl, prv', L', hd4, hf4, ht4⟩
      have HT4 : Hid (TFr w w4) := HT3'.out.trans ht4
      clear ht4
      have HX4 : Hid (LOwn Y.heap.size w4 (.slice ax C.length cx) C) := by
        have ho : w3.ownsRow Y.heap.size 88 3 (.slice ax C.length cx) C.length (litsCs C) := HX3.out
        refine own_frx ho hf4 fun g hg hx => ?_
        rcases hx with hx | hx | hx
        · subst hx
          exact blk_not_own ho HD3.out.blkS (by decide) hg
        · subst hx
          exact own_not_map ho HD3.out.map hg
        · rcases own_apart ho HD3.out.prf.1 (by decide) with h1 | h1
          · rw [h1] at hg; cases hg
          · exact h1 (hg.trans hx.symm)
      rw [HTE.out] at hd4
      obtain ⟨PR, hPR⟩ : ∃ PR, proveF vs (stepsA vs S.cs pt C) S.proof = PR := ⟨_, rfl⟩
      simp only at hd4
      rw [hPR] at hd4
      have HR4 := HR.out
      rw [hPR] at HR4
      have HD4 : Hid (SkD W w4 s r mb (.slice asv vs.length csv) pv cv prv' (.slice apa S.path.length cpa) L' (PR.map fun x => heldP vs x.cla) ⟨S.cs, f, PR, S.path⟩) := hd4
      have hLP : PR.length = L'.length := by have h9 := hd4.prfE; simp only at h9; rw [← h9, List.length_map]
      obtain ⟨ap4, cp4, rfl⟩ := own_form hd4.prf.1
      clear hd4 hf4 hPR s0 s1 s2 s3 s4 s5 s6 HD2 HD3 HX2 HX3 HT3 HTE HPB HQB HW2 HDY HLE HR
      obtain ⟨s0, s1, s2, s3, s4, s5, s6⟩ := HD4.out.cells
      by_cases h6 : 6000 < L'.length
      · have h6' : (6000 : Int) < (L'.length : Int) := by omega
        rw [if_pos (by omega)] at HR4
        subst HR4
        clear hLP
        go_wp2
        go_ret
        exact ⟨rfl, HT4.out, _, _, _, _, HD4.out⟩
      · have h6' : ¬ (6000 : Int) < (L'.length : Int) := by omega
        rw [if_neg (by omega)] at HR4
        by_cases hc0 : C.length = 0
        · rw [if_pos hc0] at HR4
          subst HR4
          have hc1 : C = [] := List.length_eq_zero_iff.1 hc0
          subst hc1
          clear hLP
          go_wp2
          go_ret
          exact ⟨rfl, HT4.out, _, _, _, _, HD4.out⟩
        · rw [if_neg hc0] at HR4
          have HR5 : Hid _ := HR4
          clear HR4 hLP
          have hc2 : ¬ (C.length : Int) = 0 := by omega
          have hc3 : 0 < C.length := by omega
          have hc4 : ¬ C = [] := fun h => by rw [h] at hc0; exact hc0 rfl
          go_wp2_with fail
          refine (add_any vs HVO.out pt S.cs (by omega) C (oldW w4 W.heap.size) r _ pv cv _ w4 (HD4.out.rul HSB.out) HD4.out.rulD (LOwn.arg HX4.out)).mono ?_
          rintro e w5 ⟨rfl, cv', hr5, hf5⟩
          have hd5 := HD4.out.add (oldW_size w4 _ HD4.out.fr.size) hr5 hf5
          have HT5 : Hid (TFr w w5) := HT4.out.trans ⟨hf5.os, hf5.tape, hf5.output, hf5.size, fun k cs t z hk ht => hf5.block k (Array.getElem?_eq_some_iff.1 hk).1 fun hx => by
            rcases hx with hx | hx
            · subst hx
              have := hk.symm.trans HD4.out.blkR
              simp only [Option.some.injEq, Obj.cells.injEq] at this
              rw [this.2.1] at ht
              exact tno_rul ht
            · rcases HD4.out.own.2 with ⟨hv, _⟩ | ⟨g, cap, cur, hv, _, hh, _⟩
              · rw [hv] at hx; cases hx
              · rw [hv] at hx
                have : g = k := by simpa [Value.ownBlock] using hx
                subst this
                have := hk.symm.trans hh
                simp only [Option.some.injEq, Obj.cells.injEq] at this
                rw [this.2.1] at ht
                exact tno_part ht⟩
          have HX5 : Hid (LOwn Y.heap.size w5 (.slice ax C.length cx) C) := by
            have ho : w4.ownsRow Y.heap.size 88 3 (.slice ax C.length cx) C.length (litsCs C) := HX4.out
            refine own_frx ho hf5 fun g hg hx => ?_
            rcases hx with hx | hx
            · subst hx
              exact blk_not_own ho HD4.out.blkR (by decide) hg
            · rcases own_apart ho HD4.out.own (by decide) with h1 | h1
              · rw [h1] at hg; cases hg
              · exact h1 (hg.trans hx.symm)
          clear hr5 hf5 HX4 HD4 s0 s1 s2 s3 s4 s5 s6
          have hlm : lastL C ∈ C := lastL_mem C hc0
          have hlp : lastL C ∈ S.path := hCm _ hlm
          have hgl : C[C.length - 1]? = some (lastL C) := by unfold lastL; rw [List.getD_eq_getElem?_getD, List.getElem?_eq_getElem (by omega)]; rfl
          obtain ⟨l, hl⟩ : ∃ l, lastL C = l := ⟨_, rfl⟩
          rw [hl] at hlm hlp hgl HR5
          have hidx := idx_lt l S.path hlp
          have HIX : Hid (∀ Z, Below w5.heap.size w5 Z → Calls Tryz.prog 196 #[.slice apa S.path.length cpa, .agg #[.int .i64 l.var, .int .i64 l.op, .int .i64 l.n]] Z fun e w' => e = .returned (.int .i64 (idxL l S.path : Nat)) ∧ Below Z.heap.size Z w') := fun Z hZ =>
            lindex_any l S.path hlp (by omega) _ Z (LOwn.arg (own_below (show w5.ownsRow _ _ _ _ _ _ from hd5.path) hZ))
          obtain ⟨ix, hix⟩ : ∃ ix, idxL l S.path = ix := ⟨_, rfl⟩
          rw [hix] at hidx HIX HR5
          obtain ⟨bx, ox, hax, hbx, x0, x1, x2⟩ := lown_cell HX5.out (C.length - 1) l hgl
          subst hax
          obtain ⟨g, hg, hcap, hcm⟩ : ∃ g, apa = some ⟨g, 0, none⟩ ∧ S.path.length ≤ cpa ∧ cpa ≤ 9223372036854775807 := by
            have ho : w5.ownsRow W.heap.size 88 3 (.slice apa S.path.length cpa) S.path.length (litsCs S.path) := hd5.path
            rcases ho.2 with ⟨_, hn⟩ | ⟨g, cap, cur, he, _, _, k1, k2, _⟩
            · omega
            · cases he
              exact ⟨g, rfl, k1, k2⟩
          subst hg
          have hic : ix ≤ cpa := by omega
          have HD5 : Hid _ := hd5
          obtain ⟨s0, s1, s2, s3, s4, s5, s6⟩ := hd5.cells
          obtain ⟨m, hm⟩ : ∃ m, C.length = m + 1 := ⟨C.length - 1, by omega⟩
          rw [show C.length - 1 = m by omega] at x0 x1 x2
          have hC5 : C.length ≤ 36 := by omega
          clear hgl hlm hlp hl hix hCm HX5 hc2 hc0 hc3 hc4 hd5 hCl
          go_wp2_with fail
          have hm36 : m ≤ 36 := by omega
          have hmm : m < m + 1 := by omega
          have hmi : (m : Int) < (m : Int) + 1 := by omega
          have hwm : IntKind.i64.wrap (m : Int) = (m : Int) := by rw [IntKind.wrap_i64]; omega
          clear hm hC5
          go_region_law
            (first
              | (rw [if_pos (by rfl)]; go_simp; go_at_call 196; refine (HIX.out _ (Below.refl _ _).drew).mono ?_; rintro e w6 ⟨rfl, hb6⟩; have hB6 : Below w5.heap.size w5 w6 := (Below.refl _ _).drew.trans hb6; have t6 := (hB6.cell (p := ⟨s, 5, none⟩) s0).trans s6; have z6 := (HD5.out.below hB6).frz 5; have l6 : s < w6.heap.size := Nat.lt_of_lt_of_le s0 hB6.size; dsimp only))
          all_goals
            have HD6 := (HD5.out.below hB6).cutp ix (by omega) rfl
            have HT6 := (HT5.out.trans (TFr.below hB6)).trans (TFr.set (HD5.out.below hB6).blkS tno_sek 5 (.slice (some ⟨g, 0, none⟩) ix cpa))
            go_wp2
            go_ret
            rw [← HR5.out]
            exact ⟨rfl, HT6, _, _, _, _, HD6⟩
end Go.Proofs.YtdjbejlbmaiocagGreatDoor
/-
  WALKS: slices.Grow of nothing, slices.Concat of rows of numbers.
-/
namespace Go.Proofs.YtdjbejlbmaiocagGreatDoor
open Go.RowKit Go.Lib

theorem heap_alloc_new9 (w : World) (o : Obj) : (w.alloc o).heap[w.heap.size]? = some o := by
  show (w.heap.push o)[w.heap.size]? = some o
  simp
theorem wpList_append_run {P : Program} {w : World} {ops : Array Oper} {rest : List Oper} {o : Oper} {a : Act} {Q : Exit → Act → World → Prop} (hgd : o.guard = none) (s x : Operand) (t1 t2 : TypeId)
    (ho : o.op = .call { callee := .builtin .append, args := #[s, x], argTypes := #[t1, t2] }) (v u v' : Value) (w' : World) (hs : a.eval s = v) (hx : a.eval x = u)
    (hr : ∀ ty, (Builtin.append_ #[t1, t2] ty #[v, u]).run P w = .ok v' w') (h : wpList P ops Q rest (a.put o.dst v') w') : wpList P ops Q (o :: rest) a w :=
  wpList_plain hgd fun _ hK => by
    unfold Oper.wp execOp
    simp only [ho, resolve, invoke, builtin, Sem.run_bind, Sem.run_pure, Result.andThen_ok, List.map_toArray, List.map_cons, List.map_nil, hs, hx, hr]
    exact hK _ _ h
set_option maxHeartbeats 1600000 in
set_option maxRecDepth 100000 in
theorem grow_nil (n : Nat) (hn : n ≤ 1000) (w : World) :
    Calls Tryz.prog 198 #[.slice none 0 0, .int .i64 n] w fun e w' => ∃ x, e = .returned x ∧ w'.ownsRow w.heap.size 3 1 x 0 [] ∧ Below w.heap.size w w' := by
  obtain ⟨i0, hi, hz0, hz1, hz2⟩ := info_parts Tryz.infoInt0
  by_cases h0 : n = 0
  · subst h0
    go_enter Tryz.func198, Tryz.ntmps198
    go_wp2
    go_ret
    exact ⟨_, rfl, World.ownsRow_nil _ _ _ _, Below.refl _ _⟩
  · have hold : (Builtin.firstCells i0.size 0 (.slice none 0 0)).run Tryz.prog w.drew = .ok ([] : List Value).toArray w.drew := run_firstCells_none w.drew i0.size 0 0 0
    obtain ⟨G, hG⟩ : ∃ G, grownCap w n 0 3 = G := ⟨_, rfl⟩
    have hrz : ∀ ty, (Builtin.append_ #[26, 3] ty #[.slice none 0 0, .int .i64 (n : Int)]).run Tryz.prog w = .ok (.slice (some ⟨w.heap.size, 0, none⟩) n G) (w.drew.alloc (.cells (Builtin.zeroCells (Value.int .i64 0).cells n ++ Builtin.zeroCells (Value.int .i64 0).cells (G - n)) 3)) := fun ty => by
      have hf : Builtin.nextslicecap (0 + n) 0 * i0.bytes ≤ 281474976710656 := growslice_fits (by omega) (by rw [hz2]; omega)
      have h := Lib.run_append_grow_zeros w 26 3 ty 3 i0 (.int .i64 0) .i64 .i64 Tryz.underlying26 Tryz.underlying3 hi hz0 none 0 0 [] hold n (by omega) (by omega) (by omega) (by omega) (by rw [hz2]; omega) hf
      rw [Nat.zero_add, hG] at h
      simpa using h
    have hGn : n ≤ G := by rw [← hG]; exact grownCap_ge w _ _ _
    have hG63 : G ≤ maxLen := by rw [← hG]; exact grownCap_le_maxLen w _ 0 _ (by unfold maxLen; omega)
    have h1 : ¬ ((n : Int) < 0) := by omega
    have h2 : (n : Int) > 0 := by omega
    have h3 : ¬ n = 0 := h0
    have HO : Hid ((w.drew.alloc (.cells (Builtin.zeroCells (Value.int .i64 0).cells n ++ Builtin.zeroCells (Value.int .i64 0).cells (G - n)) 3)).ownsRow w.heap.size 3 1 (.slice (some ⟨w.heap.size, 0, none⟩) 0 G) 0 []) := by
      refine ⟨rfl, .inr ⟨w.heap.size, G, _, rfl, Nat.le_refl _, heap_alloc_new9 _ _, Nat.zero_le _, hG63, ?_, by simp⟩⟩
      simp [Builtin.zeroCells, Value.cells]
      omega
    have hG64 : G ≤ 9223372036854775807 := by unfold maxLen at hG63; exact hG63
    clear hold hG hG63
    go_enter Tryz.func198, Tryz.ntmps198
    go_wp2_with (at_builtin; refine wpList_append_run rfl _ _ _ _ rfl _ _ _ _ rfl rfl hrz ?_)
    go_ret
    exact ⟨_, rfl, HO.out, (Below.refl _ _).drew.alloc (Nat.le_refl _) _⟩

theorem flat_step (s : Sto) (k : Nat) (x : List Int) (h : s[k]? = some x) : (s.take (k + 1)).flatten = (s.take k).flatten ++ x := by
  rw [List.take_add_one, h]; simp
theorem flat_len9 (s : Sto) (hs : s.length ≤ 6) (hr : ∀ r ∈ s, r.length ≤ 100) (k : Nat) : (s.take k).flatten.length ≤ 600 := by
  have : ∀ (l : Sto), (∀ r ∈ l, r.length ≤ 100) → l.flatten.length ≤ 100 * l.length := by
    intro l
    induction l with
    | nil => intro _; simp
    | cons x r ih =>
      intro h
      rw [List.flatten_cons, List.length_append, List.length_cons]
      have := ih fun y hy => h y (List.mem_cons_of_mem _ hy)
      have := h x (List.mem_cons_self ..)
      omega
  have h1 := this (s.take k) fun r hr2 => hr r (List.mem_of_mem_take hr2)
  have : (s.take k).length ≤ 6 := by rw [List.length_take]; omega
  omega

set_option maxHeartbeats 1600000 in
set_option maxRecDepth 100000 in
theorem concat_any (s : Sto) (hs : s.length ≤ 6) (hr6 : ∀ r ∈ s, r.length ≤ 100) (v : Value) (w : World) (hv : RArg w v s) :
    Calls Tryz.prog 136 #[v] w fun e w' => ∃ x, e = .returned x ∧ w'.ownsRow w.heap.size 3 1 x s.flatten.length (s.flatten.map (Value.int .i64)) ∧ Below w.heap.size w w' := by
  have HRA : Hid (∀ Y, Below w.heap.size w Y → RArg Y v s) := fun Y hY => RArg.below hY hv
  obtain ⟨a, c, rfl, hl, hr⟩ := hv
  have HV : Hid (∀ (i : Nat) (r : List Int), s[i]? = some r → ∃ b off x, a = some ⟨b, off, none⟩ ∧ b < w.heap.size ∧ w.cell? ⟨b, off + i, none⟩ = some x ∧ IArg w x r) := hr
  have HR6 : Hid (∀ k, (s.take k).flatten.length ≤ 600) := flat_len9 s hs hr6
  have HFA : Hid ((s.take s.length).flatten = s.flatten) := by show _ = _; rw [List.take_length]
  unfold maxLen at hl
  obtain ⟨hl1, hl⟩ := hl
  clear hr hr6
  go_enter Tryz.func136, Tryz.ntmps136
  go_wp2_with fail
  go_loopw [3, 11] (fun sz i wr => ∃ k : Nat, k ≤ s.length ∧ i = .int .i64 k ∧ sz = .int .i64 ((s.take k).flatten.length : Nat) ∧ wr = w) (fun _ i _ => s.length - (intOf i).toNat)
  case atStart => exact ⟨0, by omega, rfl, rfl, rfl⟩
  case round =>
    obtain ⟨k, hk, rfl, rfl, rfl⟩ := hrel
    by_cases hlt : k < s.length
    · obtain ⟨x, hx⟩ : ∃ x, s[k]? = some x := ⟨s[k], by simp [hlt]⟩
      have HF : Hid ((s.take (k + 1)).flatten.length = (s.take k).flatten.length + x.length) := by show _ = _; rw [flat_step s k x hx, List.length_append]
      have hx1 := HR6.out (k + 1)
      rw [HF.out] at hx1
      obtain ⟨bb, off, y, hax, hlb, hc, a5, c5, rfl, ⟨hm5, hm6⟩, _⟩ := HV.out k x hx
      subst hax
      unfold maxLen at hm6
      obtain ⟨q, hq⟩ : ∃ q, (s.take k).flatten.length = q := ⟨_, rfl⟩
      rw [hq] at HF hx1 ⊢
      clear hx hq
      go_wp2
      go_roundw
      case rel => exact ⟨k + 1, by omega, by go_num, by rw [HF.out]; go_num, trivial⟩
      case measure => simp [intOf]; omega
    · have hks : k = s.length := by omega
      subst hks
      have hx1 := HR6.out s.length
      obtain ⟨q, hq⟩ : ∃ q, (s.take s.length).flatten.length = q := ⟨_, rfl⟩
      rw [hq] at hx1 ⊢
      clear hq hlt hk
      obtain ⟨wo, rfl⟩ : ∃ wo : World, wo = wr := ⟨_, rfl⟩
      go_wp2_with fail
      refine (grow_nil q (by omega) _).mono ?_
      rintro e w1 ⟨x, rfl, hox, hb1⟩
      obtain ⟨ax, cx, rfl⟩ := own_form hox
      have HOX : Hid (w1.ownsRow wo.heap.size 3 1 (.slice ax 0 cx) 0 []) := hox
      have HB1 : Hid (Below wo.heap.size wo w1) := hb1
      clear hox hb1
      go_wp2_with fail
      go_loopw [6, 27] (fun nv i wy => ∃ k : Nat, k ≤ s.length ∧ i = .int .i64 k ∧ wy.ownsRow wo.heap.size 3 1 nv (s.take k).flatten.length ((s.take k).flatten.map (Value.int .i64)) ∧ Below wo.heap.size wo wy) (fun _ i _ => s.length - (intOf i).toNat)
      case atStart => exact ⟨0, by omega, rfl, HOX.out, HB1.out⟩
      case round =>
        obtain ⟨k, hk, rfl, hnv, hbw⟩ := hrel
        obtain ⟨an, cn, rfl⟩ := own_form hnv
        have HNV : Hid (wr.ownsRow wo.heap.size 3 1 (.slice an (s.take k).flatten.length cn) (s.take k).flatten.length ((s.take k).flatten.map (Value.int .i64))) := hnv
        have HBW : Hid (Below wo.heap.size wo wr) := hbw
        have hbs := hbw.size
        clear hnv hbw
        by_cases hlt : k < s.length
        · obtain ⟨x, hx⟩ : ∃ x, s[k]? = some x := ⟨s[k], by simp [hlt]⟩
          have HF : Hid ((s.take (k + 1)).flatten = (s.take k).flatten ++ x) := flat_step s k x hx
          have hx1 := HR6.out (k + 1)
          rw [HF.out, List.length_append] at hx1
          obtain ⟨bb, off, y, hax, hlb, hc0, hix⟩ := HV.out k x hx
          subst hax
          have hc := (HBW.out.cell (p := ⟨bb, off + k, none⟩) hlb).trans hc0
          have HIX : Hid (IArg wr y x) := IArg.below HBW.out hix
          obtain ⟨a5, c5, rfl, ⟨hm5, hm6⟩, _⟩ := hix
          obtain ⟨acc, hacc⟩ : ∃ acc, (s.take k).flatten = acc := ⟨_, rfl⟩
          rw [hacc] at HF hx1 HNV ⊢
          clear hx hacc hc0
          go_wp2_with (at_builtin; refine wpList_append_ints rfl _ _ rfl wo.heap.size _ acc rfl HNV.out _ x rfl HIX.out (by omega) hbs ?_)
          intro v3 w3 hown3 hg3 _
          have HB3 : Hid (Below wo.heap.size wo w3) := HBW.out.grown hg3 hbs (fun k h => (HNV.out.lt k h).1)
          have HO3 : Hid (w3.ownsRow wo.heap.size 3 1 v3 (acc ++ x).length ((acc ++ x).map (Value.int .i64))) := by
            show World.ownsRow _ _ _ _ _ _ _
            rw [List.length_append, List.map_append]; exact hown3
          clear hown3 hg3
          go_wp2
          go_roundw
          case rel => exact ⟨k + 1, by omega, by go_num, by rw [HF.out]; exact HO3.out, HB3.out⟩
          case measure => simp [intOf]; omega
        · have hks : k = s.length := by omega
          subst hks
          rw [HFA.out] at HNV ⊢
          go_wp2
          go_ret
          exact ⟨_, rfl, HNV.out, HBW.out⟩
end Go.Proofs.YtdjbejlbmaiocagGreatDoor
/-
  WALK: package seek: Next.
-/
namespace Go.Proofs.YtdjbejlbmaiocagGreatDoor
open Go.RowKit Go.Maps

theorem least_ex {p : Nat → Prop} (h : ∃ n, p n) : ∃ n, p n ∧ ∀ m, p m → n ≤ m := by
  obtain ⟨n, hn⟩ := h
  have : ∀ (k n : Nat), n ≤ k → p n → ∃ n, p n ∧ ∀ m, p m → n ≤ m := by
    intro k
    induction k with
    | zero => intro n hk hn; exact ⟨n, hn, fun m _ => by omega⟩
    | succ k ih =>
      intro n hk hn
      by_cases h : ∃ m, p m ∧ m < n
      · obtain ⟨m, hm, hlt⟩ := h
        exact ih m (by omega) hm
      · refine ⟨n, hn, fun m hm => ?_⟩
        apply Classical.byContradiction
        intro hl
        exact h ⟨m, hm, by omega⟩
  exact this n n (Nat.le_refl _) hn
open Classical in
noncomputable def leastOf (p : Nat → Prop) : Nat := if h : ∃ n, p n then Classical.choose (least_ex h) else 0
theorem leastOf_spec {p : Nat → Prop} (h : ∃ n, p n) : p (leastOf p) := by
  unfold leastOf
  rw [dif_pos h]
  exact (Classical.choose_spec (least_ex h)).1
theorem leastOf_le {p : Nat → Prop} {n : Nat} (h : p n) : leastOf p ≤ n := by
  have he : ∃ n, p n := ⟨n, h⟩
  unfold leastOf
  rw [dif_pos he]
  exact (Classical.choose_spec (least_ex he)).2 n h

structure SkO (vs : List MVar) (S : Sk) : Prop where
  prf : S.proof.length ≤ 6000
  cs : S.cs.length + S.fuel ≤ 1000
  path : PathOk vs S.path
theorem turn_ok (vs : List MVar) (pt : List (List Nat)) (S : Sk) (h : SkO vs S) (h0 : (turnP vs pt S).1 = 0) : SkO vs (turnP vs pt S).2 := by
  unfold turnP at h0 ⊢
  split
  · rename_i hc; rw [if_pos hc] at h0; cases h0
  · rename_i hc0
    rw [if_neg hc0] at h0
    split
    · rename_i hc; rw [if_pos hc] at h0; cases h0
    · rename_i hc1
      rw [if_neg hc1] at h0
      split
      · rename_i hc; rw [if_pos hc] at h0; cases h0
      · refine ⟨by simp only; omega, ?_, path_take vs _ h.path _⟩
        have := h.cs
        simp only [List.length_append, List.length_singleton]
        omega
theorem dec_ok (vs : List MVar) (hv : VarsOk vs) (pt : List (List Nat)) (S : Sk) (h : SkO vs S) (hf : ¬ fewestP (storeP vs (leftSk vs pt S)) < 0) : SkO vs (decSk (storeP vs (leftSk vs pt S)) S) :=
  ⟨h.prf, h.cs, path_dec vs hv pt S h.path hf⟩
def NxI (W w : World) (s r mb : Nat) (sv pv : Value) (vs : List MVar) (pt : List (List Nat)) (R : Int × List Int × Sk) (wr : World) (n : Nat) : Prop :=
  ∃ (S : Sk) (cv prv pav : Value) (L : List SV), openSk vs S = n ∧ nextP vs pt S = R ∧ SkO vs S ∧ SkD W wr s r mb sv pv cv prv pav L (S.proof.map fun x => heldP vs x.cla) S ∧ TFr w wr

set_option maxHeartbeats 6400000 in
set_option maxRecDepth 100000 in
theorem snext_any (vs : List MVar) (hva : VarsAll vs) (hn1 : 1 ≤ vs.length) (pt : List (List Nat)) (W : World) (s r mb : Nat) (sv pv cv prv pav : Value) (hB : SkB W s r mb sv pv vs pt) (L : List SV) (S : Sk) (hS : SkO vs S) (w : World)
    (hD : SkD W w s r mb sv pv cv prv pav L (S.proof.map fun x => heldP vs x.cla) S) :
    Calls Tryz.prog 73 #[.pointer (some ⟨s, 0, none⟩)] w fun e w' => ∃ x, e = .returned (.tuple #[.int .i64 (nextP vs pt S).1, x]) ∧ w'.ownsRow w.heap.size 3 1 x (nextP vs pt S).2.1.length ((nextP vs pt S).2.1.map (Value.int .i64)) ∧ TFr w w' ∧
      ∃ cv' prv' pav' L', SkD W w' s r mb sv pv cv' prv' pav' L' ((nextP vs pt S).2.2.proof.map fun x => heldP vs x.cla) (nextP vs pt S).2.2 := by
  obtain ⟨R, hR⟩ : ∃ R, nextP vs pt S = R := ⟨_, rfl⟩
  rw [hR]
  obtain ⟨i0, hi0, hz0, hz1, hz2⟩ := info_parts Tryz.infoLit
  have HVO : Hid (VarsAll vs) := hva
  have HSB : Hid (SkB W s r mb sv pv vs pt) := hB
  have HI : Hid (∃ n, NxI W w s r mb sv pv vs pt R w n) := ⟨_, S, cv, prv, pav, L, rfl, hR, hS, hD, TFr.refl _⟩
  obtain ⟨asv, csv, hsv⟩ : ∃ a c, sv = .slice a vs.length c := by obtain ⟨a, c, h, _⟩ := (hB.keep w hD.fr).1; exact ⟨a, c, h⟩
  subst hsv
  clear hD hB hva hR hS
  go_enter Tryz.func73, Tryz.ntmps73
  go_wp2_with fail
  go_loopw [] (fun wr => ∃ n, NxI W w s r mb (.slice asv vs.length csv) pv vs pt R wr n) (fun wr => leastOf (NxI W w s r mb (.slice asv vs.length csv) pv vs pt R wr))
  case atStart => exact HI.out
  case round =>
    have hsp := leastOf_spec hrel
    obtain ⟨N, hN⟩ : ∃ N, leastOf (NxI W w s r mb (.slice asv vs.length csv) pv vs pt R wr) = N := ⟨_, rfl⟩
    have HN : Hid (leastOf (NxI W w s r mb (.slice asv vs.length csv) pv vs pt R wr) = N) := hN
    rw [hN] at hsp
    clear hrel HI hN
    obtain ⟨S', cv', prv', pav', L', hop, hnx, hok, hd, htf⟩ := hsp
    have HOP : Hid (openSk vs S' = N) := hop
    have HNX : Hid (nextP vs pt S' = R) := hnx
    have HOK : Hid (SkO vs S') := hok
    have HD : Hid (SkD W wr s r mb (.slice asv vs.length csv) pv cv' prv' pav' L' (S'.proof.map fun x => heldP vs x.cla) S') := hd
    have HTF : Hid (TFr w wr) := htf
    obtain ⟨apa, cpa, rfl⟩ := own_form hd.path
    obtain ⟨s0, s1, s2, s3, s4, s5, s6⟩ := hd.cells
    have hp36 := path_len vs _ hok.path
    obtain ⟨l, hl⟩ : ∃ l, leftSk vs pt S' = l := ⟨_, rfl⟩
    have HL : Hid (leftSk vs pt S' = l) := hl
    have HLE : Hid (∀ Z, Below wr.heap.size wr Z → Calls Tryz.prog 132 #[.pointer (some ⟨r, 0, none⟩), .slice apa S'.path.length cpa] Z fun e w' => e = .returned (.int .u64 (l : Int)) ∧ Below Z.heap.size Z w') := fun Z hZ => by
      rw [← hl]
      exact rleft_any vs HVO.out hn1 S'.cs pt S'.path r _ pv cv' _ Z ((hd.below hZ).rules HSB.out) (LOwn.arg (hd.below hZ).path)
    have hst := next_step vs HVO.out.1 pt S'
    rw [hnx, hl] at hst
    have hwl : ∀ i, l.testBit i = true → (wholeP vs).testBit i = true := fun i hi => by rw [← hl] at hi; exact (narrow_sub vs HVO.out.1 _ _ _ i hi).1
    have HWL : Hid (∀ i, l.testBit i = true → (wholeP vs).testBit i = true) := hwl
    have HST := (show Hid _ from hst)
    clear hop hnx hok hd htf hl hst hwl
    go_wp2_with fail
    go_region_law
      (first
        | (rw [if_pos (by rfl)]; go_simp; go_at_call 132; refine (HLE.out _ (Below.refl _ _).drew).mono ?_; rintro e w2 ⟨rfl, hb2⟩; have hB2 : Below wr.heap.size wr w2 := (Below.refl _ _).drew.trans hb2; dsimp only))
    all_goals
      have HD2 := (show Hid _ from HD.out.below hB2)
      have HT2 : Hid (TFr w w2) := HTF.out.trans (TFr.below hB2)
      clear hb2 hB2 s0 s1 s2 s3 s4 s5 s6 HD HTF
      obtain ⟨s0, s1, s2, s3, s4, s5, s6⟩ := HD2.out.cells
      by_cases hl0 : l = 0
      · have hst := HST.out
        rw [if_pos hl0] at hst
        subst hl0
        go_wp2_with fail
        refine (turn_any vs HVO.out hn1 pt W s r mb _ pv _ _ _ HSB.out L' S' HOK.out.prf HOK.out.cs hp36 HL.out w2 HD2.out).mono ?_
        rintro e w3 ⟨rfl, ht3, cv3, prv3, pav3, L3, hd3⟩
        have HT3 : Hid (TFr w w3) := HT2.out.trans ht3
        clear ht3
        by_cases hv : (turnP vs pt S').1 = 0
        · rw [if_pos hv] at hst
          have HNI : Hid (NxI W w s r mb (.slice asv vs.length csv) pv vs pt R w3 (openSk vs (turnP vs pt S').2)) := ⟨_, cv3, prv3, pav3, L3, rfl, hst.symm, turn_ok vs pt S' HOK.out hv, hd3, HT3.out⟩
          have HLT : Hid (openSk vs (turnP vs pt S').2 < N) := by rw [← HOP.out]; exact turn_open vs pt S' hv
          rw [hv]
          clear hst hv hd3 HST HLE
          go_wp2
          go_roundw
          case rel => exact ⟨_, HNI.out⟩
          case measure => exact Nat.lt_of_le_of_lt (leastOf_le HNI.out) (by rw [HN.out]; exact HLT.out)
        · rw [if_neg hv] at hst
          have HST2 : Hid (R = ((turnP vs pt S').1, [], (turnP vs pt S').2)) := hst
          have HD3 := (show Hid _ from hd3)
          obtain ⟨vd, hvd⟩ : ∃ vd, (turnP vs pt S').1 = vd := ⟨_, rfl⟩
          have HVD : Hid ((turnP vs pt S').1 = vd) := hvd
          rw [hvd] at hv ⊢
          have hv' : (vd != 0) = true := by simpa using hv
          clear hst hd3 hvd HST HLE
          go_wp2
          go_ret2
          rw [HST2.out, HVD.out]
          exact ⟨_, rfl, World.ownsRow_nil _ _ _ _, HT3.out, _, _, _, _, HD3.out⟩
      · have hst := HST.out
        rw [if_neg hl0] at hst
        have hl0' : ((l : Int) == 0) = false := by simpa using hl0
        obtain ⟨st, hstp⟩ : ∃ st, storeP vs l = st := ⟨_, rfl⟩
        have HSTP : Hid (storeP vs l = st) := hstp
        rw [hstp] at hst
        have hstl : st.length ≤ 6 := by rw [← hstp, storeP_len]; exact HVO.out.1.1
        have HSR : Hid (∀ r ∈ st, r.length ≤ 100) := fun r hr => by
          obtain ⟨i, hi⟩ := List.mem_iff_getElem?.1 hr
          have h1 := storeF_small (litsP vs l) (List.replicate vs.length []) i
          have h2 : (storeF (litsP vs l) (List.replicate vs.length [])).getD i [] = r := by
            have : storeF (litsP vs l) (List.replicate vs.length []) = st := hstp
            rw [this, List.getD_eq_getElem?_getD, hi]; rfl
          rw [h2] at h1
          have h3 := lits_len vs l
          have h4 : ((List.replicate vs.length ([] : List Int)).getD i []).length = 0 := by
            rw [List.getD_eq_getElem?_getD, List.getElem?_replicate]
            split <;> rfl
          omega
        clear hstp
        go_wp2_with fail
        refine (fstore_any vs HVO.out l HWL.out _ w2 (HSB.out.keep _ HD2.out.fr).1 (HSB.out.keep _ HD2.out.fr).2.2).mono ?_
        rintro e w3 ⟨B, cells, rfl, hg3, hBs, hb3⟩
        rw [HSTP.out] at hg3
        have HG3 : Hid (GRows w3 B vs.length cells st) := hg3
        have HD3 := (show Hid _ from HD2.out.below hb3)
        have HT3 : Hid (TFr w w3) := HT2.out.trans (TFr.below hb3)
        clear hb3 s0 s1 s2 s3 s4 s5 s6 HD2 HT2 HLE
        obtain ⟨s0, s1, s2, s3, s4, s5, s6⟩ := HD3.out.cells
        go_wp2_with fail
        refine (fewest_any st hstl _ w3 HG3.out.rarg).mono ?_
        rintro e w4 ⟨rfl, rfl⟩
        obtain ⟨ff, hff⟩ : ∃ ff, fewestP st = ff := ⟨_, rfl⟩
        have HFF : Hid (fewestP st = ff) := hff
        rw [hff] at hst ⊢
        by_cases hf0 : ff < 0
        · rw [if_pos hf0] at hst
          have HST2 : Hid (R = (1, st.flatten, S')) := hst
          clear hst hff hg3
          go_wp2_with fail
          refine (concat_any st hstl HSR.out _ w4 HG3.out.rarg).mono ?_
          rintro e w5 ⟨x, rfl, hox, hb5⟩
          have HO5 : Hid (w5.ownsRow w4.heap.size 3 1 x st.flatten.length (st.flatten.map (Value.int .i64))) := hox
          have HD5 := (show Hid _ from HD3.out.below hb5)
          have HT5 : Hid (TFr w w5) := HT3.out.trans (TFr.below hb5)
          have HLE4 : Hid (w.heap.size ≤ w4.heap.size) := HT3.out.size
          clear hox hb5
          go_wp2
          go_ret2
          rw [HST2.out]
          exact ⟨_, rfl, World.ownsRow.mono HO5.out HLE4.out, HT5.out, _, _, _, _, HD5.out⟩
        · rw [if_neg hf0] at hst
          obtain ⟨hfs, hfl⟩ := fewest_some st (by rw [hff]; exact hf0)
          rw [hff] at hfs hfl
          obtain ⟨v, rfl⟩ : ∃ v : Nat, ff = (v : Int) := ⟨ff.toNat, by omega⟩
          rw [Int.toNat_natCast] at hfl
          have hvl : v < st.length := by omega
          obtain ⟨row, hrow⟩ : ∃ row, st[v]? = some row := ⟨st[v], by rw [List.getElem?_eq_getElem hvl]⟩
          rw [List.getD_eq_getElem?_getD, hrow] at hfl
          simp only [Option.getD_some] at hfl
          obtain ⟨htop, hlen, hrws, _⟩ := hg3
          obtain ⟨xr, hxr, hoxr⟩ := hrws v row hrow
          obtain ⟨axr, cxr, rfl⟩ := own_form hoxr
          obtain ⟨gx, hgx⟩ : ∃ gx, axr = some ⟨gx, 0, none⟩ := by
            rcases hoxr.2 with ⟨_, hn⟩ | ⟨g, cap, cur, he, _⟩
            · omega
            · cases he; exact ⟨g, rfl⟩
          subst hgx
          obtain ⟨x0, hx0⟩ : ∃ x0, row[0]? = some x0 := ⟨row[0], by rw [List.getElem?_eq_getElem (by omega)]⟩
          have cB : w4.cell? ⟨B, v, none⟩ = some (.slice (some ⟨gx, 0, none⟩) row.length cxr) := by rw [htop.cellAt v (by omega)]; exact hxr
          have lB : B < w4.heap.size := (htop.lt B rfl).2
          have cX : w4.cell? ⟨gx, 0, none⟩ = some (.int .i64 x0) := by rw [hoxr.cellAt 0 (by omega), List.getElem?_map, hx0]; rfl
          have lX : gx < w4.heap.size := (hoxr.lt gx rfl).2
          have HPK : Hid (pickL st = ⟨(v : Int), 4, x0⟩) := by
            show _ = _
            unfold pickL
            have hgd : st.getD v [] = row := by rw [List.getD_eq_getElem?_getD, hrow]; rfl
            rw [hff, Int.toNat_natCast, hgd, List.getD_eq_getElem?_getD, hx0]; rfl
          have HST2 : Hid (R = nextP vs pt (decSk st S')) := hst
          have HOK2 : Hid (SkO vs (decSk st S')) := by rw [← HSTP.out, ← HL.out]; exact dec_ok vs HVO.out.1 pt S' HOK.out (by rw [HL.out, HSTP.out, hff]; exact hf0)
          have HOP2 : Hid (openSk vs (decSk st S') < N) := by rw [← HOP.out, ← HSTP.out, ← HL.out]; exact dec_open vs HVO.out.1 pt S' (by rw [HL.out, HSTP.out, hff]; exact hf0)
          have hvn : v < vs.length := by omega
          have hvn' : (v : Int) < (vs.length : Int) := by omega
          have hr1 : 0 < row.length := by omega
          have hr2 : (0 : Int) < (row.length : Int) := by omega
          have hr3 : ¬ row = [] := fun h => by rw [h] at hr1; cases hr1
          have hWs : W.heap.size ≤ w4.heap.size := HD3.out.fr.size
          have hopa : w4.ownsRow W.heap.size 88 3 (.slice apa S'.path.length cpa) S'.path.length (litsCs S'.path) := HD3.out.path
          have hf1 : ¬ ((v : Int) < 0) := by omega
          clear hst hff hrow hxr hx0 hoxr htop hrws hlen hfs hfl hvl HST hstl
          go_wp2_with fail
          go_region_law
            (first
              | (rw [if_pos (by rfl)]; refine wp_append_own_at _ _ _ 38 rfl W.heap.size 88 i0 _ 3 24 Tryz.underClauseE hi0 hz0 hz1 hz2 rfl (by decide) _ _ _ rfl (hopa.drew.alloc _) ⟨w4.heap.size, 0, none⟩ 1 1 (litCs ⟨(v : Int), 4, x0⟩) rfl rfl (lit_laid w4.drew ⟨(v : Int), 4, x0⟩) (by intro u hu; simp [litCs] at hu; rcases hu with rfl | rfl | rfl <;> rfl) ?_ ?_ ?_ ?_; (unfold maxLen; omega); omega; (simp; omega); intro v7 w7 hown7 hg7 hat7; obtain ⟨a7, c7, hv7⟩ := own_form hown7; subst hv7
                 have hbl7 := blk_grown (HD3.out.below ((Below.refl _ _).drew.alloc (Nat.le_refl _) _)).blkS hg7 (hopa.drew.alloc _) (by decide)
                 have t5 : w7.cell? ⟨s, 5, none⟩ = some (.slice apa S'.path.length cpa) := blk9 hbl7 5 _ rfl
                 have z5 : w7.frozen? ⟨s, 5, none⟩ = false := frz9 hbl7 5
                 have l5 : s < w7.heap.size := (Array.getElem?_eq_some_iff.1 hbl7).1))
          all_goals
            have HNI : Hid (NxI W w s r mb (.slice asv vs.length csv) pv vs pt R (w7.setCell ⟨s, 5, none⟩ (.slice a7 (S'.path.length + 1) c7)) (openSk vs (decSk st S'))) := by
              have hb5 : Below w4.heap.size w4 (w4.drew.alloc (.cells #[.int .i64 (v : Int), .int .i64 4, .int .i64 x0] 88)) := (Below.refl _ _).drew.alloc (Nat.le_refl _) _
              have hpush := HD3.out.pushp (l := ⟨(v : Int), 4, x0⟩) hb5 hg7 hat7 rfl hown7
              have hsk : SkD W (w7.setCell ⟨s, 5, none⟩ (.slice a7 (S'.path.length + 1) c7)) s r mb (.slice asv vs.length csv) pv cv' prv' (.slice a7 (S'.path.length + 1) c7) L' ((decSk st S').proof.map fun x => heldP vs x.cla) (decSk st S') := by
                unfold decSk
                rw [HPK.out]
                exact hpush
              exact ⟨decSk st S', _, _, _, L', rfl, HST2.out.symm, HOK2.out, hsk, ((HT3.out.trans (TFr.below hb5)).trans (TFr.grown (hopa.drew.alloc _) hg7 tno_lit)).trans (TFr.set hbl7 tno_sek 5 _)⟩
            go_wp2
            go_roundw
            case rel => exact ⟨_, HNI.out⟩
            case measure => exact Nat.lt_of_le_of_lt (leastOf_le HNI.out) (by rw [HN.out]; exact HOP2.out)
end Go.Proofs.YtdjbejlbmaiocagGreatDoor
/-
  PLAIN: a searcher's proof: by turning back, by deciding, till there is none.
-/
namespace Go.Proofs.YtdjbejlbmaiocagGreatDoor

/-- What is right of a proof that is done. -/
structure PrEnd (m : Mod) (G : List Nat) (P : List MStep) : Prop where
  stp : stepsP m G P = true
  cla : ∀ s ∈ P, claE m.vars s.cla = 0
  thr : ∀ s ∈ P, thereB m.cons.length s = true
  lst : lastB P = true
theorem lastB_snoc (P : List MStep) (t : MStep) : lastB (P ++ [t]) = decide (t.cla.length = 0) := by unfold lastB; simp
theorem fails_zero (vs : List MVar) (A : List Nat) (h : Nat) (h0 : 0 ∈ A) : failsP vs A h = true := by
  unfold failsP unitsP
  split
  · rfl
  · have : ∀ (f l : Nat), 0 < f → unitsN A f l = 0 := by
      intro f l hf
      cases f with
      | zero => omega
      | succ f =>
        unfold unitsN
        have hr : ∀ (cs : List Nat) (l : Nat), 0 ∈ cs → roundP cs l = none := by
          intro cs
          induction cs with
          | nil => intro l h; cases h
          | cons c t ih =>
            intro l hm
            unfold roundP
            by_cases hz : l &&& c = 0
            · rw [if_pos hz]
            · rw [if_neg hz]
              rcases List.mem_cons.1 hm with he | hm
              · rw [← he] at hz; simp at hz
              · split <;> exact ih _ hm
        rw [hr A l h0]
    rw [this _ _ (Nat.succ_pos _)]; rfl
theorem turn_proof (m : Mod) (hm : checkM m = 0) (G : List Nat) (S : Sk) (hp : PrOk m G S) (hl : S.path.length ≤ 36) (hz : leftSk m.vars (ptsM m) S = 0) :
    ((turnP m.vars (ptsM m) S).1 = 0 → PrOk m G (turnP m.vars (ptsM m) S).2) ∧ ((turnP m.vars (ptsM m) S).1 = 2 → PrEnd m G (turnP m.vars (ptsM m) S).2.proof ∧ (turnP m.vars (ptsM m) S).2.proof.length ≤ 6000) := by
  have hv := vars_okP m hm
  have hn : nothingP m.vars S.cs (ptsM m) (leastC m.vars S.cs (ptsM m) S.path) = true := least_nothing _ _ _ _ (by unfold nothingP; unfold leftSk at hz; rw [hz]; rfl)
  obtain ⟨c, hc⟩ : ∃ c, leastC m.vars S.cs (ptsM m) S.path = c := ⟨_, rfl⟩
  have hcm : ∀ x ∈ c, x ∈ S.path := fun x hx => leastC_mem m.vars S.cs (ptsM m) S.path x (by rw [hc]; exact hx)
  have hcl : c.length ≤ S.path.length := by rw [← hc]; exact leastC_len m.vars S.cs (ptsM m) S.path
  rw [hc] at hn
  have hnz : narrowP m.vars S.cs (ptsM m) (heldP m.vars c) = 0 := by unfold nothingP at hn; simpa using hn
  -- the reasons that are kept
  have hen := least_enough (enoughP m.vars S.cs (heldP m.vars c)) (reasonsP m.vars S.cs (ptsM m) (heldP m.vars c)).length _ (reasons_enough m.vars hv S.cs (ptsM m) (heldP m.vars c) hnz)
  have hal := fun x hx hq => least_alone (enoughP m.vars S.cs (heldP m.vars c)) (fun x : MStep × Nat => x.2 = 0) (fun l x hx hp => by unfold enoughP; exact fails_zero _ _ _ (List.mem_append_right _ (List.mem_map.2 ⟨x, hx, hp⟩))) (reasonsP m.vars S.cs (ptsM m) (heldP m.vars c)) x hx hq
  have hmem : ∀ x ∈ leastL (enoughP m.vars S.cs (heldP m.vars c)) (reasonsP m.vars S.cs (ptsM m) (heldP m.vars c)).length (reasonsP m.vars S.cs (ptsM m) (heldP m.vars c)), x ∈ reasonsP m.vars S.cs (ptsM m) (heldP m.vars c) := fun x hx => least_mem _ x _ _ hx
  obtain ⟨R, hR⟩ : ∃ R, leastL (enoughP m.vars S.cs (heldP m.vars c)) (reasonsP m.vars S.cs (ptsM m) (heldP m.vars c)).length (reasonsP m.vars S.cs (ptsM m) (heldP m.vars c)) = R := ⟨_, rfl⟩
  rw [hR] at hen hal hmem
  have hsteps : stepsA m.vars S.cs (ptsM m) c = R.map (·.1) ++ [⟨2, 0, c⟩] := by unfold stepsA; rw [hR]
  have hrr : ∀ t ∈ R.map (·.1), ∀ A, rightP m A t = true := fun t ht A => by
    obtain ⟨x, hx, rfl⟩ := List.mem_map.1 ht
    obtain ⟨k, cc, h1, h2, h3, h4, h5⟩ := reasons_right m hm S.cs _ x (hmem x hx)
    unfold rightP
    rw [if_pos h2, h3, Int.toNat_natCast, List.getD_eq_getElem?_getD, h1, ← h4]
    exact h5
  obtain ⟨b1, b2, b3, b4⟩ := prove_many m G (R.map (·.1)) S.proof hrr hp.stp
  obtain ⟨P1, hP1⟩ : ∃ P1, proveF m.vars (R.map (·.1)) S.proof = P1 := ⟨_, rfl⟩
  rw [hP1] at b1 b2 b3 b4
  have hfin : rightP m (G ++ P1.map fun t => heldP m.vars t.cla) ⟨2, 0, c⟩ = true := by
    unfold rightP
    rw [if_neg (show ¬ ((2 : Int) = 1) by decide), if_pos ⟨rfl, rfl⟩]
    unfold enoughP at hen
    refine fails_impl m.vars hv _ _ _ (fun d hd => ?_) hen
    rcases List.mem_append.1 hd with hd | hd
    · refine impl_more (hp.imp d hd) fun e he => ?_
      rcases List.mem_append.1 he with he | he
      · exact List.mem_append_left _ he
      · obtain ⟨s, hs, rfl⟩ := List.mem_map.1 he
        exact List.mem_append_right _ (List.mem_map.2 ⟨s, b3 s hs, rfl⟩)
    · obtain ⟨x, hx, rfl⟩ := List.mem_map.1 hd
      obtain ⟨_, _, _, _, _, h4, _⟩ := reasons_right m hm S.cs _ x (hmem x hx)
      refine impl_mem (List.mem_append_right _ ?_)
      show x.2 ∈ _
      rw [h4]
      exact b2 x.1 (List.mem_map.2 ⟨x, hx, rfl⟩)
  obtain ⟨d1, d2, d3, d4⟩ := prove_one m G P1 ⟨2, 0, c⟩ b1 hfin
  have hprf : proveF m.vars (stepsA m.vars S.cs (ptsM m) c) S.proof = proveF m.vars [⟨2, 0, c⟩] P1 := by rw [hsteps, proveF_app, hP1]
  have hcE : claE m.vars c = 0 := by
    unfold claE
    rw [if_neg (by omega)]
    refine firstE_zero _ fun e he => ?_
    obtain ⟨x, hx, rfl⟩ := List.mem_map.1 he
    exact (hp.pth x (hcm x hx)).1
  have hall : ∀ s ∈ proveF m.vars [⟨2, 0, c⟩] P1, claE m.vars s.cla = 0 ∧ thereB m.cons.length s = true := fun s hs => by
    rcases d4 s hs with h | h
    · rcases b4 s h with h | h
      · exact ⟨hp.cla s h, hp.thr s h⟩
      · obtain ⟨x, hx, rfl⟩ := List.mem_map.1 h
        obtain ⟨k, cc, h1, h2, h3, _, _⟩ := reasons_right m hm S.cs _ x (hmem x hx)
        refine ⟨(reasons_clean m hm S.cs _ x (hmem x hx)).1, ?_⟩
        have hk := (List.getElem?_eq_some_iff.1 h1).1
        unfold thereB
        rw [h2, h3]
        simp
        omega
    · rw [h]
      exact ⟨hcE, by unfold thereB; simp⟩
  unfold turnP
  rw [hc, hprf]
  split
  · exact ⟨fun h => (by cases h), fun h => (by cases h)⟩
  · split
    · exact ⟨fun h => (by cases h), fun h => (by cases h)⟩
    · rename_i h6
      split
      · rename_i hc0
        have hcn : c = [] := List.length_eq_zero_iff.1 hc0
        refine ⟨fun h => (by cases h), fun _ => ⟨⟨d1, fun s hs => (hall s hs).1, fun s hs => (hall s hs).2, ?_⟩, by simp only; omega⟩⟩
        -- the last clause is empty
        show lastB (proveF m.vars [⟨2, 0, c⟩] P1) = true
        subst hcn
        unfold proveF proveF
        split
        · rename_i hin
          have hin0 : heldP m.vars ([] : Cla) ∈ P1.map fun x => heldP m.vars x.cla := by simpa using hin
          rw [held_none m.vars hv] at hin0
          obtain ⟨s, hs, hs0⟩ := List.mem_map.1 hin0
          rcases b4 s hs with h | h
          · exact absurd hs0 (hp.non s h)
          · obtain ⟨x, hx, rfl⟩ := List.mem_map.1 h
            obtain ⟨_, _, _, _, _, h4, _⟩ := reasons_right m hm S.cs _ x (hmem x hx)
            have hx0 : x.2 = 0 := by rw [h4]; exact hs0
            have hRx := hal x hx hx0
            have hcx := ((reasons_clean m hm S.cs _ x (hmem x hx)).2 hx0).1
            rw [← hP1, hRx]
            show lastB (proveF m.vars [x.1] S.proof) = true
            unfold proveF proveF
            split
            · rename_i hin2
              have : heldP m.vars x.1.cla ∈ S.proof.map fun x => heldP m.vars x.cla := by simpa using hin2
              obtain ⟨s2, hs2, he2⟩ := List.mem_map.1 this
              exact absurd (he2.trans hs0) (hp.non s2 hs2)
            · rw [lastB_snoc, hcx]; rfl
        · rw [lastB_snoc]; rfl
      · rename_i hc0
        refine ⟨fun _ => ⟨d1, fun e he => ?_, fun s hs => (hall s hs).1, fun s hs => (hall s hs).2, fun s hs h0 => ?_, fun l hl => hp.pth l (List.mem_of_mem_take hl)⟩, fun h => (by cases h)⟩
        · rcases List.mem_append.1 he with he | he
          · refine impl_more (hp.imp e he) fun q hq => ?_
            rcases List.mem_append.1 hq with hq | hq
            · exact List.mem_append_left _ hq
            · obtain ⟨s, hs, rfl⟩ := List.mem_map.1 hq
              exact List.mem_append_right _ (List.mem_map.2 ⟨s, d3 s (b3 s hs), rfl⟩)
          · rw [List.mem_singleton.1 he]
            exact impl_mem (List.mem_append_right _ d2)
        · have hcne : heldP m.vars c ≠ 0 := by
            have hx := lastL_mem c hc0
            exact (hp.pth _ (hcm _ hx)).2 c hx
          rcases d4 s hs with h | h
          · rcases b4 s h with h | h
            · exact hp.non s h h0
            · obtain ⟨x, hx, rfl⟩ := List.mem_map.1 h
              obtain ⟨_, _, _, _, _, h4, _⟩ := reasons_right m hm S.cs _ x (hmem x hx)
              have hpm := ((reasons_clean m hm S.cs _ x (hmem x hx)).2 (by rw [h4]; exact h0)).2
              have : leastC m.vars S.cs (ptsM m) S.path = [] := least_clear _ (fun l => by unfold nothingP; rw [narrow_none m.vars hv S.cs (ptsM m) hpm]; rfl) _ _ rfl
              rw [hc] at this
              rw [this] at hc0
              exact hc0 rfl
          · rw [h] at h0
            exact hcne h0
theorem dec_proof (m : Mod) (hm : checkM m = 0) (G : List Nat) (S : Sk) (hp : PrOk m G S) (hf : ¬ fewestP (storeP m.vars (leftSk m.vars (ptsM m) S)) < 0) : PrOk m G (decSk (storeP m.vars (leftSk m.vars (ptsM m) S)) S) := by
  have hv := vars_okP m hm
  refine ⟨hp.stp, hp.imp, hp.cla, hp.thr, hp.non, fun l hl => ?_⟩
  rcases List.mem_append.1 hl with hl | hl
  · exact hp.pth l hl
  · rw [List.mem_singleton.1 hl]
    obtain ⟨h1, h2⟩ := fewest_some _ hf
    unfold pickL
    obtain ⟨f, hff⟩ : ∃ f, fewestP (storeP m.vars (leftSk m.vars (ptsM m) S)) = f := ⟨_, rfl⟩
    rw [hff] at hf h1 h2 ⊢
    rw [storeP_len] at h1
    obtain ⟨v, rfl⟩ : ∃ v : Nat, f = (v : Int) := ⟨f.toNat, by omega⟩
    rw [Int.toNat_natCast] at h2 ⊢
    have hvl : v < m.vars.length := by omega
    have hnd := storeP_nodup m.vars (leftSk m.vars (ptsM m) S) v hvl
    obtain ⟨x, y, t, ht⟩ : ∃ x y t, (storeP m.vars (leftSk m.vars (ptsM m) S)).getD v [] = x :: y :: t := by
      match hr : (storeP m.vars (leftSk m.vars (ptsM m) S)).getD v [] with
      | [] => rw [hr] at h2; simp at h2
      | [x] => rw [hr] at h2; simp at h2
      | x :: y :: t => exact ⟨x, y, t, rfl⟩
    have hxm : x ∈ (storeP m.vars (leftSk m.vars (ptsM m) S)).getD v [] := by rw [ht]; simp
    have hym : y ∈ (storeP m.vars (leftSk m.vars (ptsM m) S)).getD v [] := by rw [ht]; simp
    have hxy : x ≠ y := by rw [ht] at hnd; simp at hnd; exact hnd.1.1
    have rng : ∀ z, z ∈ (storeP m.vars (leftSk m.vars (ptsM m) S)).getD v [] → ∃ i, (wholeP m.vars).testBit i = true ∧ i / 6 = v ∧ z = (varAt m.vars v).lo + ((i % 6 : Nat) : Int) := fun z hz => by
      obtain ⟨i, _, hb, hi6, he⟩ := (mem_storeP m.vars _ v hvl z).1 hz
      exact ⟨i, (narrow_sub m.vars hv _ _ _ i hb).1, hi6, he⟩
    obtain ⟨ix, wx, x6, ex⟩ := rng x hxm
    obtain ⟨iy, wy, y6, ey⟩ := rng y hym
    have hb := vars_bounds m hm v hvl
    have hsz := wx
    unfold wholeP ofP at hsz
    rw [testBit_of m.vars hv] at hsz
    simp only [Bool.and_eq_true, decide_eq_true_eq] at hsz
    have h6 := hsz.2.1
    rw [x6] at h6
    unfold sizeV at h6
    rw [ht]
    refine ⟨?_, fun c hc h0 => ?_⟩
    · show litE m.vars ⟨(v : Int), 4, x⟩ = 0
      unfold litE
      rw [if_neg (by simp only; omega), if_neg (by simp only; omega), if_neg (by simp only; omega)]
    · have hbit : (heldP m.vars c).testBit iy = true := by
        unfold heldP ofP
        unfold wholeP ofP at wy
        rw [testBit_of m.vars hv] at wy ⊢
        simp only [Bool.and_eq_true, decide_eq_true_eq] at wy ⊢
        refine ⟨wy.1, wy.2.1, ?_⟩
        unfold oneB
        refine List.any_eq_true.2 ⟨_, hc, ?_⟩
        simp only [Bool.and_eq_true, decide_eq_true_eq]
        refine ⟨by omega, ?_⟩
        rw [y6]
        unfold litV
        simp
        omega
      rw [h0] at hbit
      simp at hbit
theorem next_proof (m : Mod) (hm : checkM m = 0) (G : List Nat) : ∀ (N : Nat) (S : Sk), openSk m.vars S < N → PrOk m G S → SkO m.vars S → ((nextP m.vars (ptsM m) S).1 = 1 → PrOk m G (nextP m.vars (ptsM m) S).2.2) ∧ ((nextP m.vars (ptsM m) S).1 = 2 → PrEnd m G (nextP m.vars (ptsM m) S).2.2.proof ∧ (nextP m.vars (ptsM m) S).2.2.proof.length ≤ 6000)
  | 0, S, h, _, _ => by omega
  | N + 1, S, h, hp, ho => by
    rw [next_step m.vars (vars_okP m hm)]
    split
    · rename_i hz
      obtain ⟨t1, t2⟩ := turn_proof m hm G S hp (path_len m.vars _ ho.path) hz
      split
      · rename_i h0
        exact next_proof m hm G N _ (by have := turn_open m.vars (ptsM m) S h0; omega) (t1 h0) (turn_ok m.vars (ptsM m) S ho h0)
      · rename_i h0
        refine ⟨fun h1 => ?_, t2⟩
        exfalso
        simp only at h1
        unfold turnP at h1
        split at h1
        · cases h1
        · split at h1
          · cases h1
          · split at h1 <;> cases h1
    · split
      · exact ⟨fun _ => hp, fun h => (by cases h)⟩
      · rename_i hf
        exact next_proof m hm G N _ (by have := dec_open m.vars (vars_okP m hm) (ptsM m) S hf; omega) (dec_proof m hm G S hp hf) (dec_ok m.vars (vars_okP m hm) (ptsM m) S ho hf)
end Go.Proofs.YtdjbejlbmaiocagGreatDoor
/-
  WALK: package follow: Of.
-/
namespace Go.Proofs.YtdjbejlbmaiocagGreatDoor
open Go.RowKit

theorem ptsM_lt (m : Mod) (hm : checkM m = 0) : ∀ pts ∈ ptsM m, ∀ z ∈ pts, z < 2 ^ 36 := by
  intro pts hp
  obtain ⟨c, hcm, rfl⟩ := List.mem_map.1 hp
  obtain ⟨j, hj⟩ := List.mem_iff_getElem?.1 hcm
  exact pointsP_lt m hm j c hj
theorem rul_of {w W : World} {r : Nat} {sv pv : Value} {vs : List MVar} {pt : List (List Nat)} (hr : w.heap.size ≤ r) (hrW : r < W.heap.size) (hb : Below w.heap.size w W) (hv : VArg w sv vs) (hT : TabT w) (hp : PRow (r + 1) W pv pt) (hl : ∀ pts ∈ pt, ∀ z ∈ pts, z < 2 ^ 36) : Rul W r sv pv vs pt := by
  refine ⟨hrW, fun w' hf => ?_⟩
  have hb2 : Below w.heap.size w w' := ⟨hf.os.trans hb.os, hf.tape.trans hb.tape, hf.output.trans hb.output, Nat.le_trans hb.size hf.size, fun k hk => (hf.block k (Nat.lt_of_lt_of_le hk hb.size) (by omega)).trans (hb.block k hk)⟩
  exact ⟨VArg.below hb2 hv, (hp.fr hf (fun g hg => by omega)).arg hl, hT.below hb2⟩

set_option maxHeartbeats 3200000 in
set_option maxRecDepth 100000 in
theorem of_rules0 (m : Mod) (hm : checkM m = 0) (vs cs : Value) (w : World) (hma : MArg w vs cs m) (hT : TabT w) :
    Calls Tryz.prog 87 #[modV vs cs m] w fun e w' => ∃ r pv, e = .returned (.pointer (some ⟨r, 0, none⟩)) ∧ Rul w' r vs pv m.vars (ptsM m) ∧ RulD w' w' r vs pv (.slice none 0 0) [] ∧ w.heap.size ≤ r ∧ Below w.heap.size w w' ∧ PRow (r + 1) w' pv (ptsM m) := by
  obtain ⟨i0, hi0, hz0, hz1, hz2⟩ := info_parts Tryz.infoPts
  have HMA : Hid (∀ w', Below w.heap.size w w' → MArg w' vs cs m) := fun w' h => MArg.below h hma
  have HVW : Hid (VArg w vs m.vars) := hma.1
  have HT : Hid (TabT w) := hT
  have HM : Hid (checkM m = 0) := hm
  have h8 : m.cons.length ≤ 8 := (checkM_vars m hm).2.2.1
  obtain ⟨⟨a1, c1, rfl, _, _⟩, ⟨a2, c2, rfl, _, _⟩⟩ := hma
  unfold modV
  obtain ⟨L, hL⟩ : ∃ L, ptsM m = L := ⟨_, rfl⟩
  have HL : Hid (ptsM m = L) := hL
  have HLL : Hid (L.length = m.cons.length) := by show _ = _; rw [← hL]; unfold ptsM; rw [List.length_map]
  rw [hL]
  clear hL
  clear hm hT
  go_enter Tryz.func87, Tryz.ntmps87
  go_wp2_with fail
  have HB0 : Hid (Below w.heap.size w ((w.alloc (.cells #[.slice a1 m.vars.length c1, .slice a2 m.cons.length c2, .int .i64 m.goal, .int .i64 m.var] 25)).alloc (.cells #[.slice a1 m.vars.length c1, .slice none 0 0, .slice none 0 0] 204))) := (below_alloc _ _).alloc (by simp) _
  have HQ : Hid (((w.alloc (.cells #[.slice a1 m.vars.length c1, .slice a2 m.cons.length c2, .int .i64 m.goal, .int .i64 m.var] 25)).alloc (.cells #[.slice a1 m.vars.length c1, .slice none 0 0, .slice none 0 0] 204)).heap[w.heap.size]? = some (.cells #[.slice a1 m.vars.length c1, .slice a2 m.cons.length c2, .int .i64 m.goal, .int .i64 m.var] 25)) := ((below_alloc (w.alloc (.cells #[.slice a1 m.vars.length c1, .slice a2 m.cons.length c2, .int .i64 m.goal, .int .i64 m.var] 25)) (.cells #[.slice a1 m.vars.length c1, .slice none 0 0, .slice none 0 0] 204)).block w.heap.size (by simp)).trans (heap_alloc_new w _)
  have HBK : Hid (((w.alloc (.cells #[.slice a1 m.vars.length c1, .slice a2 m.cons.length c2, .int .i64 m.goal, .int .i64 m.var] 25)).alloc (.cells #[.slice a1 m.vars.length c1, .slice none 0 0, .slice none 0 0] 204)).heap[w.heap.size + 1]? = some (.cells #[.slice a1 m.vars.length c1, .slice none 0 0, .slice none 0 0] 204)) := by
    have h := heap_alloc_new (w.alloc (.cells #[.slice a1 m.vars.length c1, .slice a2 m.cons.length c2, .int .i64 m.goal, .int .i64 m.var] 25)) (.cells #[.slice a1 m.vars.length c1, .slice none 0 0, .slice none 0 0] 204)
    rw [World.size_alloc] at h
    exact h
  have HS0 : Hid (((w.alloc (.cells #[.slice a1 m.vars.length c1, .slice a2 m.cons.length c2, .int .i64 m.goal, .int .i64 m.var] 25)).alloc (.cells #[.slice a1 m.vars.length c1, .slice none 0 0, .slice none 0 0] 204)).heap.size = w.heap.size + 2) := by show _ = _; simp
  obtain ⟨W, hW⟩ : ∃ W, ((w.alloc (.cells #[.slice a1 m.vars.length c1, .slice a2 m.cons.length c2, .int .i64 m.goal, .int .i64 m.var] 25)).alloc (.cells #[.slice a1 m.vars.length c1, .slice none 0 0, .slice none 0 0] 204)) = W := ⟨_, rfl⟩
  rw [hW] at HB0 HQ HBK HS0 ⊢
  clear hW
  go_loopw [12] (fun i wr => ∃ (k : Nat) (pv : Value), k ≤ m.cons.length ∧ i = .int .i64 k ∧ Hid (PRow (w.heap.size + 2) wr pv (L.take k)) ∧ Hid (wr.heap[w.heap.size + 1]? = some (.cells #[.slice a1 m.vars.length c1, pv, .slice none 0 0] 204)) ∧ Hid (Below (w.heap.size + 1) W wr)) (fun i _ => m.cons.length - (intOf i).toNat)
  case atStart => exact ⟨0, .slice none 0 0, by omega, rfl, ⟨[], World.ownsRow_nil _ _ _ _, fun i pts h => by simp at h⟩, HBK, Below.refl _ _⟩
  case round =>
    obtain ⟨k, pv, hk, rfl, HROW, HBLK, HBW⟩ := hrel
    have HBN : Hid (Below w.heap.size w wr) := HB0.out.trans (HBW.out.mono (by omega))
    have HSZ : Hid (w.heap.size + 2 ≤ wr.heap.size) := by have := HBW.out.size; have := HS0.out; show _ ≤ _; omega
    have HMB : Hid (wr.heap[w.heap.size]? = some (.cells #[.slice a1 m.vars.length c1, .slice a2 m.cons.length c2, .int .i64 m.goal, .int .i64 m.var] 25)) := (HBW.out.block w.heap.size (by omega)).trans HQ.out
    have k0 : wr.cell? ⟨w.heap.size, 0, none⟩ = some (.slice a1 m.vars.length c1) := blk9 HMB.out 0 _ rfl
    have k1 : wr.cell? ⟨w.heap.size, 1, none⟩ = some (.slice a2 m.cons.length c2) := blk9 HMB.out 1 _ rfl
    have k2 : wr.cell? ⟨w.heap.size, 2, none⟩ = some (.int .i64 m.goal) := blk9 HMB.out 2 _ rfl
    have k3 : wr.cell? ⟨w.heap.size, 3, none⟩ = some (.int .i64 m.var) := blk9 HMB.out 3 _ rfl
    obtain ⟨cells, hcw, hrows⟩ := HROW.out
    have HCW : Hid (wr.ownsRow (w.heap.size + 2) 180 1 pv (L.take k).length cells) := hcw
    have HRW : Hid (∀ (i : Nat) (p : List Nat), (L.take k)[i]? = some p → ∃ x, cells[i]? = some x ∧ wr.ownsRow (w.heap.size + 2) 183 1 x p.length (u64s p)) := hrows
    obtain ⟨ap, cp, hpv⟩ := own_form hcw
    have HTL : Hid ((L.take k).length = k) := by show _ = _; rw [List.length_take, HLL.out]; omega
    rw [HTL.out] at hpv HCW
    subst hpv
    have g1 : wr.cell? ⟨w.heap.size + 1, 1, none⟩ = some (.slice ap k cp) := blk9 HBLK.out 1 _ rfl
    have lr : w.heap.size < wr.heap.size := by have := HSZ.out; omega
    have lr1 : w.heap.size + 1 < wr.heap.size := by have := HSZ.out; omega
    clear hcw hrows
    by_cases hlt : k < m.cons.length
    · obtain ⟨c, hc⟩ : ∃ c, m.cons[k]? = some c := ⟨m.cons[k], by simp [hlt]⟩
      have HLK : Hid (L[k]? = some (pointsP m.vars c)) := by show _ = _; rw [← HL.out]; unfold ptsM; rw [List.getElem?_map, hc]; rfl
      have HPT : Hid (∀ Y, Below wr.heap.size wr Y → Calls Tryz.prog 127 #[.agg #[.slice a1 m.vars.length c1, .slice a2 m.cons.length c2, .int .i64 m.goal, .int .i64 m.var], .int .i64 (k : Int)] Y fun e w' => ∃ x, e = .returned x ∧ w'.ownsRow Y.heap.size 183 1 x (pointsP m.vars c).length (u64s (pointsP m.vars c)) ∧ Below Y.heap.size Y w') := fun Y hY =>
        points_own m k c _ _ Y HM.out hc (HMA.out _ (HBN.out.trans (hY.mono HBN.out.size)))
      have HTN : Hid (L.take (k + 1) = L.take k ++ [pointsP m.vars c]) := by show _ = _; rw [List.take_add_one, HLK.out]; rfl
      obtain ⟨pts, hpts⟩ : ∃ pts, pointsP m.vars c = pts := ⟨_, rfl⟩
      rw [hpts] at HPT HTN
      clear hc hpts
      go_wp2_with fail
      go_region_law
        (first
          | (rw [if_pos (by rfl)]; refine wp_append_own _ _ _ 198 rfl (w.heap.size + 2) 180 i0 _ 1 24 Tryz.underPts hi0 hz0 hz1 hz2 rfl (by decide) _ _ _ rfl (hw3.alloc _) ⟨w3.heap.size, 0, none⟩ 1 1 [.slice ax pts.length cx] rfl rfl (pts_laid w3 (.slice ax pts.length cx)) (by intro u hu; simp at hu; subst hu; rfl) ?_ ?_ ?_ ?_; (unfold maxLen; omega); omega; (have := hB3.size; have := HSZ.out; simp; omega); intro v4 w4 hown4 hg4 _; have hP : PRow (w.heap.size + 2) w4 v4 (L.take k ++ [pts]) := PRow.push (by rw [HTL.out]; exact hw3.alloc _) (fun i p hi => (hr3 i p hi).imp fun y hy => ⟨hy.1, hy.2.alloc _⟩) (hx3.alloc _) hg4 (by rw [HTL.out]) hown4; obtain ⟨a9, b9, hv9⟩ := own_form hown4; subst hv9; have hk4 := blk_grown (((below_alloc w3 _).block (w.heap.size + 1) l3).trans hbk3) hg4 (hw3.alloc _) (by decide); have d2 : w4.cell? ⟨w.heap.size + 1, 1, none⟩ = some (.slice ap k cp) := blk9 hk4 1 _ rfl; have z2 : w4.frozen? ⟨w.heap.size + 1, 1, none⟩ = false := frz9 hk4 1)
          | (rw [if_pos (by rfl)]; go_simp; go_at_call 127; refine (HPT.out _ (Below.refl _ _).drew).mono ?_; rintro e w3 ⟨x, rfl, hx, hb3⟩; obtain ⟨ax, cx, rfl⟩ := own_form hx; have hB3 : Below wr.heap.size wr w3 := (Below.refl _ _).drew.trans hb3; have c3 : w3.cell? ⟨w.heap.size + 1, 1, none⟩ = some (.slice ap k cp) := (hB3.cell (p := ⟨w.heap.size + 1, 1, none⟩) lr1).trans g1; have hw3 : w3.ownsRow (w.heap.size + 2) 180 1 (.slice ap k cp) k cells := own_below HCW.out hB3; have hr3 : ∀ (i : Nat) (p : List Nat), (L.take k)[i]? = some p → ∃ x, cells[i]? = some x ∧ w3.ownsRow (w.heap.size + 2) 183 1 x p.length (u64s p) := fun i p hi => (HRW.out i p hi).imp fun y hy => ⟨hy.1, own_below hy.2 hB3⟩; have hx3 : w3.ownsRow (w.heap.size + 2) 183 1 (.slice ax pts.length cx) pts.length (u64s pts) := World.ownsRow.mono hx HSZ.out; have l3 : w.heap.size + 1 < w3.heap.size := Nat.lt_of_lt_of_le lr1 hB3.size; have hbk3 := (hB3.block (w.heap.size + 1) lr1).trans HBLK.out; dsimp only))
      all_goals
        have HR4 : Hid (PRow (w.heap.size + 2) (w4.setCell ⟨w.heap.size + 1, 1, none⟩ (.slice a9 (k + 1) b9)) (.slice a9 (k + 1) b9) (L.take (k + 1))) := by
          rw [HTN.out]
          exact hP.fr (X := fun g => g = w.heap.size + 1) (Fr.setX (X := fun g => g = w.heap.size + 1) (Fr.refl _ _) (p := ⟨w.heap.size + 1, 1, none⟩) rfl _) (fun g hg => by omega)
        have HK4 : Hid ((w4.setCell ⟨w.heap.size + 1, 1, none⟩ (.slice a9 (k + 1) b9)).heap[w.heap.size + 1]? = some (.cells #[.slice a1 m.vars.length c1, .slice a9 (k + 1) b9, .slice none 0 0] 204)) := by show _ = _; rw [heap_setCell_same w4 (w.heap.size + 1) 1 _ _ _ hk4]; rfl
        have HB4 : Hid (Below (w.heap.size + 1) W (w4.setCell ⟨w.heap.size + 1, 1, none⟩ (.slice a9 (k + 1) b9))) := ((((HBW.out.trans (hB3.mono (by have := HSZ.out; omega))).alloc (by have := hB3.size; have := HSZ.out; omega) _).grown hg4 (by have := hB3.size; have := HSZ.out; simp; omega) (fun g hg => by have := ((hw3.alloc (.cells #[.slice ax pts.length cx] 180)).lt g hg).1; omega))).setCell (show w.heap.size + 1 ≤ w.heap.size + 1 from Nat.le_refl _) _
        clear hP hx hb3 hB3 c3 hw3 hr3 hx3 l3 hbk3 hown4 hg4 hk4 k0 k1 k2 k3 g1 HROW HBLK HBW
        go_wp2
        go_roundw
        case rel => exact ⟨k + 1, _, by omega, by go_num, HR4, HK4, HB4⟩
        case measure => simp [intOf]; omega
    · have hke : k = m.cons.length := by omega
      have HFIN : Hid (PRow (w.heap.size + 2) wr (.slice ap k cp) L) := by have := HROW.out; rw [List.take_of_length_le (by rw [HLL.out]; omega)] at this; exact this
      have HRU : Hid (Rul wr (w.heap.size + 1) (.slice a1 m.vars.length c1) (.slice ap k cp) m.vars L) := rul_of (by omega) lr1 HBN.out HVW.out HT.out HFIN.out (by rw [← HL.out]; exact ptsM_lt m HM.out)
      have HRD : Hid (RulD wr wr (w.heap.size + 1) (.slice a1 m.vars.length c1) (.slice ap k cp) (.slice none 0 0) []) := ⟨HBLK.out, World.ownsRow_nil _ _ _ _, (fun z hz => by cases hz), Fr.refl _ _⟩
      have hle : ¬ ((k : Int) < (m.cons.length : Int)) := by omega
      clear hke k0 k1 k2 k3 g1
      go_wp2
      go_ret
      exact ⟨w.heap.size + 1, rfl, _, HRU.out, HRD.out, by omega, HBN.out, HFIN.out⟩
theorem of_rules (m : Mod) (hm : checkM m = 0) (vs cs : Value) (w : World) (hma : MArg w vs cs m) (hT : TabT w) :
    Calls Tryz.prog 87 #[modV vs cs m] w fun e w' => ∃ r pv, e = .returned (.pointer (some ⟨r, 0, none⟩)) ∧ Rul w' r vs pv m.vars (ptsM m) ∧ RulD w' w' r vs pv (.slice none 0 0) [] ∧ w.heap.size ≤ r ∧ Below w.heap.size w w' :=
  (of_rules0 m hm vs cs w hma hT).mono (by rintro e w' ⟨r, pv, h1, h2, h3, h4, h5, _⟩; exact ⟨r, pv, h1, h2, h3, h4, h5⟩)
end Go.Proofs.YtdjbejlbmaiocagGreatDoor
/-
  WALK: package seek: New.
-/
namespace Go.Proofs.YtdjbejlbmaiocagGreatDoor
open Go.RowKit Go.Maps

theorem sk_new {w w1 W : World} {s r mb : Nat} {sv pv : Value} {vs : List MVar} {pt : List (List Nat)} {fuel : Nat} (hv : VArg w sv vs) (hT : TabT w) (hb1 : Below w.heap.size w w1) (hr : w.heap.size ≤ r) (hm : w.heap.size ≤ mb) (hs : w1.heap.size ≤ s) (hmr : mb < r ∨ w1.heap.size ≤ mb)
    (hp : PRow (r + 1) w1 pv pt) (hl : ∀ pts ∈ pt, ∀ z ∈ pts, z < 2 ^ 36) (hbW : Below w1.heap.size w1 W)
    (hR : W.heap[r]? = some (.cells #[sv, pv, .slice none 0 0] 204)) (hS : W.heap[s]? = some (.cells #[sv, .pointer (some ⟨r, 0, none⟩), .int .i64 (fuel : Int), .slice none 0 0, .map (some mb), .slice none 0 0] 120))
    (hM : W.ownsMap Tryz.prog 183 (unitElem (H := Unit)) mb 0 (setU [])) : SkB W s r mb sv pv vs pt ∧ SkD W W s r mb sv pv (.slice none 0 0) (.slice none 0 0) (.slice none 0 0) [] [] ⟨[], fuel, [], []⟩ := by
  refine ⟨⟨(Array.getElem?_eq_some_iff.1 hR).1, (Array.getElem?_eq_some_iff.1 hS).1, hM.lt, fun w' hf => ?_⟩, ⟨hR, hS, World.ownsRow_nil _ _ _ _, (fun z hz => by cases hz), ⟨World.ownsRow_nil _ _ _ _, (fun x hx => by cases hx)⟩, rfl, hM, World.ownsRow_nil _ _ _ _, (fun x hx => by cases hx), Fr.refl _ _⟩⟩
  have hb2 : Below w.heap.size w w' := ⟨hf.os.trans (hbW.os.trans hb1.os), hf.tape.trans (hbW.tape.trans hb1.tape), hf.output.trans (hbW.output.trans hb1.output), Nat.le_trans (Nat.le_trans hb1.size hbW.size) hf.size, fun k hk => by
    have h1 := hb1.size
    have h2 := hbW.size
    exact (hf.block k (by omega) (by unfold XS; omega)).trans ((hbW.block k (by omega)).trans (hb1.block k hk))⟩
  refine ⟨VArg.below hb2 hv, ?_, hT.below hb2⟩
  have hf1 : Fr (fun k => k = r ∨ k = mb ∧ mb < r) w1 w' := ⟨hf.os.trans hbW.os, hf.tape.trans hbW.tape, hf.output.trans hbW.output, Nat.le_trans hbW.size hf.size, fun k hk hn => by
    have h2 := hbW.size
    exact (hf.block k (by omega) (by unfold XS; omega)).trans (hbW.block k hk)⟩
  exact (hp.fr hf1 (fun g hg => by omega)).arg hl

/-- A new searcher. -/
def NewQ (m : Mod) (vs : Value) (fuel : Nat) (w W : World) (s : Nat) : Prop := ∃ r mb pv, SkB W s r mb vs pv m.vars (ptsM m) ∧ SkD W W s r mb vs pv (.slice none 0 0) (.slice none 0 0) (.slice none 0 0) [] [] ⟨[], fuel, [], []⟩ ∧ Below w.heap.size w W ∧ w.heap.size ≤ r ∧ w.heap.size ≤ s ∧ w.heap.size ≤ mb
set_option maxHeartbeats 3200000 in
set_option maxRecDepth 100000 in
theorem new_any (m : Mod) (hm : checkM m = 0) (fuel : Nat) (vs cs : Value) (w : World) (hma : MArg w vs cs m) (hT : TabT w) :
    Calls Tryz.prog 41 #[modV vs cs m, .int .i64 (fuel : Int)] w fun e W => ∃ s, e = .returned (.pointer (some ⟨s, 0, none⟩)) ∧ NewQ m vs fuel w W s := by
  have HMA : Hid (∀ w', Below w.heap.size w w' → MArg w' vs cs m) := fun w' h => MArg.below h hma
  have HT : Hid (∀ w', Below w.heap.size w w' → TabT w') := fun w' h => hT.below h
  have HLT : Hid (∀ pts ∈ ptsM m, ∀ z ∈ pts, z < 2 ^ 36) := ptsM_lt m hm
  have HOF : Hid (∀ Z, Below w.heap.size w Z → Calls Tryz.prog 87 #[modV vs cs m] Z fun e w' => ∃ r pv, e = .returned (.pointer (some ⟨r, 0, none⟩)) ∧ w'.heap[r]? = some (.cells #[vs, pv, .slice none 0 0] 204) ∧ Z.heap.size ≤ r ∧ Below Z.heap.size Z w' ∧ PRow (r + 1) w' pv (ptsM m)) := fun Z hZ =>
    (of_rules0 m hm vs cs Z (HMA.out _ hZ) (HT.out _ hZ)).mono (by rintro e w' ⟨r, pv, h1, _, h3, h4, h5, h6⟩; exact ⟨r, pv, h1, h3.blk, h4, h5, h6⟩)
  have HV : Hid (VArg w vs m.vars) := hma.1
  obtain ⟨⟨a1, c1, rfl, _, _⟩, ⟨a2, c2, rfl, _, _⟩⟩ := hma
  unfold modV at *
  have hmm := @run_makeMap Tryz.prog
  clear hm hT
  go_enter Tryz.func41, Tryz.ntmps41
  go_wp2_with fail
  have hbY : Below w.heap.size w (w.alloc (.cells #[.slice a1 m.vars.length c1, .slice a2 m.cons.length c2, .int .i64 m.goal, .int .i64 m.var] 25)) := below_alloc _ _
  obtain ⟨Y, hY⟩ : ∃ Y, w.alloc (.cells #[.slice a1 m.vars.length c1, .slice a2 m.cons.length c2, .int .i64 m.goal, .int .i64 m.var] 25) = Y := ⟨_, rfl⟩
  have d0 : Y.cell? ⟨w.heap.size, 0, none⟩ = some (.slice a1 m.vars.length c1) := by rw [← hY]; simp
  have d1 : Y.cell? ⟨w.heap.size, 1, none⟩ = some (.slice a2 m.cons.length c2) := by rw [← hY]; simp
  have d2 : Y.cell? ⟨w.heap.size, 2, none⟩ = some (.int .i64 m.goal) := by rw [← hY]; simp
  have d3 : Y.cell? ⟨w.heap.size, 3, none⟩ = some (.int .i64 m.var) := by rw [← hY]; simp
  have dl : w.heap.size < Y.heap.size := by rw [← hY]; simp
  rw [hY] at hbY ⊢
  have HBY : Hid (Below w.heap.size w Y) := hbY
  clear hY hbY
  go_region_law
    (first
      | (rw [if_pos (by rfl)]; go_simp; go_at_call 87; refine (HOF.out _ HBY.out.drew).mono ?_; rintro e w3 ⟨r, pv, rfl, hr3, hrr, hb3, hp3⟩; have hB3 : Below Y.heap.size Y w3 := (Below.refl _ _).drew.trans hb3; have d0' := (hB3.cell (p := ⟨w.heap.size, 0, none⟩) dl).trans d0; have dl' : w.heap.size < w3.heap.size := Nat.lt_of_lt_of_le dl hB3.size; dsimp only)
      | (rw [if_pos (by rfl)]; go_simp; go_at_call 87; refine (HOF.out _ (HBY.out.drew.alloc HBY.out.size _)).mono ?_; rintro e w3 ⟨r, pv, rfl, hr3, hrr, hb3, hp3⟩; have hB4 : Below Y.heap.size Y w3 := ((Below.refl _ _).drew.alloc (Nat.le_refl _) _).trans (hb3.mono (by simp)); have d0' := (hB4.cell (p := ⟨w.heap.size, 0, none⟩) dl).trans d0; have dl' : w.heap.size < w3.heap.size := Nat.lt_of_lt_of_le dl hB4.size; dsimp only))
  all_goals
    first
      | (have HQ : Hid (NewQ m (.slice a1 m.vars.length c1) fuel w ((w3.alloc (.map #[] 0)).alloc (.cells #[.slice a1 m.vars.length c1, .pointer (some ⟨r, 0, none⟩), .int .i64 (fuel : Int), .slice none 0 0, .map (some w3.heap.size), .slice none 0 0] 120)) (w3.heap.size + 1)) := by
           have hbw : Below w.heap.size w w3 := HBY.out.trans (hB3.mono HBY.out.size)
           have hbW : Below w3.heap.size w3 ((w3.alloc (.map #[] 0)).alloc (.cells #[.slice a1 m.vars.length c1, .pointer (some ⟨r, 0, none⟩), .int .i64 (fuel : Int), .slice none 0 0, .map (some w3.heap.size), .slice none 0 0] 120)) := (below_alloc _ _).alloc (by simp) _
           have hsz := hbw.size
           have hry : Y.heap.size ≤ r := hrr
           have hS := heap_alloc_new (w3.alloc (.map #[] 0)) (.cells #[.slice a1 m.vars.length c1, .pointer (some ⟨r, 0, none⟩), .int .i64 (fuel : Int), .slice none 0 0, .map (some w3.heap.size), .slice none 0 0] 120)
           rw [World.size_alloc] at hS
           exact ⟨r, w3.heap.size, pv, (sk_new HV.out (HT.out _ (Below.refl _ _)) hbw (by omega) (by omega) (by omega) (Or.inr (Nat.le_refl _)) hp3 HLT.out hbW ((hbW.block r (Array.getElem?_eq_some_iff.1 hr3).1).trans hr3) hS ((World.ownsMap_made _ _ _ _).alloc _)).1, (sk_new HV.out (HT.out _ (Below.refl _ _)) hbw (by omega) (by omega) (by omega) (Or.inr (Nat.le_refl _)) hp3 HLT.out hbW ((hbW.block r (Array.getElem?_eq_some_iff.1 hr3).1).trans hr3) hS ((World.ownsMap_made _ _ _ _).alloc _)).2, hbw.trans (hbW.mono hsz), by omega, by omega, by omega⟩
         go_wp2
         go_ret
         exact ⟨_, rfl, HQ.out⟩)
      | (have HQ : Hid (NewQ m (.slice a1 m.vars.length c1) fuel w (w3.alloc (.cells #[.slice a1 m.vars.length c1, .pointer (some ⟨r, 0, none⟩), .int .i64 (fuel : Int), .slice none 0 0, .map (some Y.heap.size), .slice none 0 0] 120)) w3.heap.size) := by
           have hbw : Below w.heap.size w w3 := HBY.out.trans (hB4.mono HBY.out.size)
           have hbW : Below w3.heap.size w3 (w3.alloc (.cells #[.slice a1 m.vars.length c1, .pointer (some ⟨r, 0, none⟩), .int .i64 (fuel : Int), .slice none 0 0, .map (some Y.heap.size), .slice none 0 0] 120)) := below_alloc _ _
           have hsz := hbw.size
           have hry : Y.heap.size + 1 ≤ r := by simpa using hrr
           have hS := heap_alloc_new w3 (.cells #[.slice a1 m.vars.length c1, .pointer (some ⟨r, 0, none⟩), .int .i64 (fuel : Int), .slice none 0 0, .map (some Y.heap.size), .slice none 0 0] 120)
           have hmd : (Y.drew.alloc (.map #[] 0)).ownsMap Tryz.prog 183 (unitElem (H := Unit)) Y.heap.size 0 (setU []) := World.ownsMap_made Y.drew _ _ _
           have hM := (map_below hmd hb3).alloc (.cells #[.slice a1 m.vars.length c1, .pointer (some ⟨r, 0, none⟩), .int .i64 (fuel : Int), .slice none 0 0, .map (some Y.heap.size), .slice none 0 0] 120)
           exact ⟨r, Y.heap.size, pv, (sk_new HV.out (HT.out _ (Below.refl _ _)) hbw (by omega) (by omega) (by omega) (Or.inl (by omega)) hp3 HLT.out hbW ((hbW.block r (Array.getElem?_eq_some_iff.1 hr3).1).trans hr3) hS hM).1, (sk_new HV.out (HT.out _ (Below.refl _ _)) hbw (by omega) (by omega) (by omega) (Or.inl (by omega)) hp3 HLT.out hbW ((hbW.block r (Array.getElem?_eq_some_iff.1 hr3).1).trans hr3) hS hM).2, hbw.trans (hbW.mono hsz), by omega, by omega, by omega⟩
         go_wp2
         go_ret
         exact ⟨_, rfl, HQ.out⟩)
end Go.Proofs.YtdjbejlbmaiocagGreatDoor
