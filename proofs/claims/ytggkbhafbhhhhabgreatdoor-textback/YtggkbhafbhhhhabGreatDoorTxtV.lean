/-
  PLAIN: tokens as they are scanned are as the reader wants them. WALK: package text: Parse.
-/
import Derived.Test.YtggkbhafbhhhhabGreatDoorTxtU
namespace Go.Proofs.YtggkbhafbhhhhabGreatDoor
open Go.RowKit

theorem extract_list (s : ByteArray) (a b : Nat) : (s.extract a b).data.toList = (s.data.toList.drop a).take (b - a) := by
  rw [ByteArray.data_extract, Array.toList_extract]
theorem take_while_all (p : UInt8 → Bool) : ∀ (l : List UInt8), ∀ c ∈ l.take (l.takeWhile p).length, p c = true
  | [], c, h => by simp at h
  | x :: l, c, h => by
    by_cases hx : p x = true
    · rw [List.takeWhile_cons_of_pos hx] at h
      simp only [List.length_cons, List.take_succ_cons, List.mem_cons] at h
      rcases h with rfl | h
      · exact hx
      · exact take_while_all p l c h
    · rw [List.takeWhile_cons_of_neg hx] at h
      simp at h
theorem tok_ok (s : ByteArray) (hs : s.size ≤ 4000) (j : Nat) (hj : j < s.size) (he : errOf (tokAt s j).kind (tokAt s j).text = 0) : TokOk (tokAt s j) := by
  refine ⟨Nat.le_trans (tokAt_size s j) hs, fun hk => ?_⟩
  have hk0 := kind_of_ok s j he
  have hlj : j < s.data.toList.length := by rw [len_size]; exact hj
  have hgt := endOf_gt _ _ hlj hk0
  have hle := (endOf_le _ _ hlj).2
  rw [len_size] at hle
  have ht : tokAt s j = ⟨kindOf s.data.toList j, j, s.extract j (endOf s.data.toList j)⟩ := by unfold tokAt; rw [if_neg hk0]
  rw [hk] at he
  rw [ht] at he hk ⊢
  simp only at he hk ⊢
  have hsz : (s.extract j (endOf s.data.toList j)).size = endOf s.data.toList j - j := size_extract s _ _ hle
  refine ⟨⟨by omega, ?_⟩, ?_⟩
  · unfold errOf at he
    rw [if_neg (by decide), if_pos rfl] at he
    split at he
    · cases he
    · omega
  · have hk2 : kindOf s.data.toList j = 2 := by omega
    have hL : ¬ isL (byteAt s.data.toList j) = true := by
      intro h; unfold kindOf at hk2; rw [if_pos h] at hk2; cases hk2
    have hD : isD (byteAt s.data.toList j) = true := by
      unfold kindOf at hk2; rw [if_neg hL] at hk2
      by_cases h : isD (byteAt s.data.toList j) = true
      · exact h
      · rw [if_neg h] at hk2; split at hk2 <;> cases hk2
    have hend : endOf s.data.toList j = runTo isD s.data.toList j := by unfold endOf; rw [if_neg hL, if_pos hD]
    intro c hc
    rw [extract_list, hend] at hc
    unfold runTo at hc
    rw [Nat.add_sub_cancel_left] at hc
    have := take_while_all isD _ c hc
    unfold isD at this
    simp at this
    omega
theorem scanF_toks (s : ByteArray) (hs : s.size ≤ 4000) : ∀ (f k : Nat) (acc : List Tok), (∀ t ∈ acc, TokOk t) → k ≤ s.size → acc.length ≤ k → (∀ t ∈ (scanF f s k acc).1, TokOk t) ∧ (scanF f s k acc).1.length ≤ s.size := by
  intro f
  induction f with
  | zero => intro k acc h1 h2 h3; exact ⟨h1, by simp only [scanF]; omega⟩
  | succ f ih =>
    intro k acc h1 h2 h3
    have hk := skipTo_le false s.data.toList k (by rw [len_size]; exact h2)
    by_cases h4 : skipTo false s.data.toList k < s.size
    · by_cases h5 : errOf (tokAt s (skipTo false s.data.toList k)).kind (tokAt s (skipTo false s.data.toList k)).text = 0
      · rw [scanF_next f s k _ acc rfl h4 h5]
        have hlj : skipTo false s.data.toList k < s.data.toList.length := by rw [len_size]; exact h4
        have hgt := endOf_gt _ _ hlj (kind_of_ok s _ h5)
        have hle := (endOf_le _ _ hlj).2
        rw [len_size] at hle
        refine ih _ _ (fun t ht => ?_) hle (by simp; omega)
        rcases List.mem_append.1 ht with ht | ht
        · exact h1 t ht
        · rw [List.mem_singleton.1 ht]; exact tok_ok s hs _ h4 h5
      · rw [scanF_err f s k _ acc rfl h4 h5]; exact ⟨fun t ht => (by cases ht), (by simp)⟩
    · rw [scanF_end _ s k acc h4]; exact ⟨h1, by simp only; omega⟩
theorem scan_toks (s : ByteArray) : (∀ t ∈ (scanOf s).1, TokOk t) ∧ (scanOf s).1.length ≤ 4000 := by
  unfold scanOf
  split
  · exact ⟨fun t ht => (by cases ht), (by simp)⟩
  · obtain ⟨h1, h2⟩ := scanF_toks s (by omega) (s.size + 1) 0 [] (fun t ht => (by cases ht)) (Nat.zero_le _) (Nat.le_refl _)
    exact ⟨h1, by omega⟩
theorem targ_own {w : World} {B : Nat} {v : Value} {l : List Tok} (h : w.ownsRow B 79 3 v l.length (toksCells l)) (hl : l.length ≤ 4000) (ht : ∀ t ∈ l, TokOk t) : TArg w.heap.size w v l := by
  obtain ⟨a, c, hv, hm, hr⟩ := row_open h
  refine ⟨a, c, hv, hm, ⟨hl, ht⟩, fun i z hz => ?_⟩
  have hi : i < l.length := (List.getElem?_eq_some_iff.1 hz).1
  obtain ⟨g, ha, hg, hc⟩ := hr i hi
  have hf := flat_get9 tokCells 3 (fun _ => rfl) l i
  exact ⟨g, 0, ha, hg, by rw [Nat.zero_add, hc _ (by omega)]; exact hf 0 z hz (by omega), by rw [Nat.zero_add, hc _ (by omega)]; exact hf 1 z hz (by omega), by rw [Nat.zero_add, hc _ (by omega)]; exact hf 2 z hz (by omega)⟩
/-- What Parse answers. -/
def parseA (s : ByteArray) : Mod × Int × Int :=
  if (scanOf s).2.2 = 0 then
    if (readA s.size (scanOf s).1).2.2 = 0 then
      if checkM (readA s.size (scanOf s).1).1 = 0 then ((readA s.size (scanOf s).1).1, 0, 0) else (noMod, 0, checkM (readA s.size (scanOf s).1).1)
    else (noMod, (readA s.size (scanOf s).1).2.1, (readA s.size (scanOf s).1).2.2)
  else (noMod, (scanOf s).2.1, (scanOf s).2.2)
theorem parse_ok {s : ByteArray} {ts : List Tok} {a : Nat} {m : Mod} {x : Int} (hs : scanOf s = (ts, a, 0)) (hr : readA s.size ts = (m, x, 0)) (hc : checkM m = 0) : parseA s = (m, 0, 0) := by
  unfold parseA; simp [hs, hr, hc]
theorem parse_check {s : ByteArray} {ts : List Tok} {a : Nat} {m : Mod} {x : Int} (hs : scanOf s = (ts, a, 0)) (hr : readA s.size ts = (m, x, 0)) (hc : ¬ checkM m = 0) : parseA s = (noMod, 0, checkM m) := by
  unfold parseA; simp [hs, hr, hc]
theorem parse_read {s : ByteArray} {ts : List Tok} {a : Nat} {m : Mod} {x e : Int} (hs : scanOf s = (ts, a, 0)) (hr : readA s.size ts = (m, x, e)) (he : ¬ e = 0) : parseA s = (noMod, x, e) := by
  unfold parseA; simp [hs, hr, he]
theorem parse_scan {s : ByteArray} {ts : List Tok} {a : Nat} {e : Int} (hs : scanOf s = (ts, a, e)) (he : ¬ e = 0) : parseA s = (noMod, (a : Int), e) := by
  unfold parseA; simp [hs, he]
theorem ret4 {w w1 : World} (h : Below w.heap.size w w1) (u0 u1 u2 u3 : Value) : Below w.heap.size w ((((w1.setCell ⟨w.heap.size, 0, none⟩ u0).setCell ⟨w.heap.size, 1, none⟩ u1).setCell ⟨w.heap.size, 2, none⟩ u2).setCell ⟨w.heap.size, 3, none⟩ u3) :=
  Fr.toBelow (((((Fr.below (X := fun k => w.heap.size ≤ k) h).setX (p := ⟨w.heap.size, 0, none⟩) (Nat.le_refl _) u0).setX (p := ⟨w.heap.size, 1, none⟩) (Nat.le_refl _) u1).setX (p := ⟨w.heap.size, 2, none⟩) (Nat.le_refl _) u2).setX (p := ⟨w.heap.size, 3, none⟩) (Nat.le_refl _) u3)
theorem ret4_mod {w w1 : World} {B : Nat} {vs cs : Value} {m : Mod} (h : ModR B w1 vs cs m) (hB : w.heap.size < B) (u0 u1 u2 u3 : Value) : ModR w.heap.size ((((w1.setCell ⟨w.heap.size, 0, none⟩ u0).setCell ⟨w.heap.size, 1, none⟩ u1).setCell ⟨w.heap.size, 2, none⟩ u2).setCell ⟨w.heap.size, 3, none⟩ u3) vs cs m :=
  (h.fr (((((Fr.refl (fun k => k < B) w1).setX (p := ⟨w.heap.size, 0, none⟩) hB u0).setX (p := ⟨w.heap.size, 1, none⟩) hB u1).setX (p := ⟨w.heap.size, 2, none⟩) hB u2).setX (p := ⟨w.heap.size, 3, none⟩) hB u3) (fun _ hk => hk)).mono (Nat.le_of_lt hB)
set_option maxHeartbeats 1600000 in
set_option maxRecDepth 100000 in
theorem parse_any (s : ByteArray) (hs : s.size ≤ maxLen) (w : World) :
    Calls Tryz.prog 6 #[.string s] w fun e w' => ∃ vs cs, e = .returned (.tuple #[modV vs cs (parseA s).1, .int .i64 (parseA s).2.1, .int .i64 (parseA s).2.2]) ∧ ModR w.heap.size w' vs cs (parseA s).1 ∧ Below w.heap.size w w' := by
  obtain ⟨m0, x0, e0, hA⟩ : ∃ m0 x0 e0, parseA s = (m0, x0, e0) := ⟨_, _, _, rfl⟩
  have HA : Hid (parseA s = (m0, x0, e0)) := hA
  rw [hA]
  simp only
  clear hA
  obtain ⟨ts, at1, e1, hsc⟩ : ∃ ts at1 e1, scanOf s = (ts, at1, e1) := ⟨_, _, _, rfl⟩
  have HSC : Hid (scanOf s = (ts, at1, e1)) := hsc
  have HTK : Hid ((∀ t ∈ ts, TokOk t) ∧ ts.length ≤ 4000) := by have h := scan_toks s; rw [hsc] at h; exact h
  have HSS : Hid (s.size ≤ maxLen) := hs
  clear hsc
  unfold maxLen at hs
  go_enter Tryz.func6, Tryz.ntmps6
  go_wp2_with fail
  have HBA := below_alloc w (.cells #[.slice none 0 0, .slice none 0 0, .int .i64 0, .int .i64 0] 25)
  have HQ0 : (w.alloc (.cells #[.slice none 0 0, .slice none 0 0, .int .i64 0, .int .i64 0] 25)).heap[w.heap.size]? = some (.cells #[.slice none 0 0, .slice none 0 0, .int .i64 0, .int .i64 0] 25) := heap_alloc_new _ _
  refine (scan_all s HSS.out _).mono ?_
  rw [HSC.out]
  rintro e w1 ⟨v1, rfl, hown1, hb1⟩
  have HO1 : Hid (TArg w1.heap.size w1 v1 ts) := targ_own hown1 HTK.out.2 HTK.out.1
  have HB1 : Hid (Below w.heap.size w w1) := HBA.trans (hb1.mono (by simp))
  have HQ1 : Hid (w1.heap[w.heap.size]? = some (.cells #[.slice none 0 0, .slice none 0 0, .int .i64 0, .int .i64 0] 25)) := (hb1.block _ (by simp)).trans HQ0
  obtain ⟨av, cv, hv1⟩ := own_form hown1
  subst hv1
  clear hown1 hb1 HBA HQ0
  by_cases he1 : e1 = 0
  · subst he1
    go_wp2_with fail
    refine (read_any _ ts _ w1 HO1.out).mono ?_
    obtain ⟨m2, x2, e2, hR⟩ : ∃ m2 x2 e2, readA s.size ts = (m2, x2, e2) := ⟨_, _, _, rfl⟩
    have HR : Hid (readA s.size ts = (m2, x2, e2)) := hR
    rw [hR]
    simp only
    clear hR
    rintro e w2 ⟨vs, cs, rfl, hma, hb2⟩
    have HMA : Hid (ModR w1.heap.size w2 vs cs m2) := hma
    have HWW : Hid (w.heap.size < w1.heap.size) := (Array.getElem?_eq_some_iff.1 HQ1.out).1
    have HB2 : Hid (Below w.heap.size w w2) := HB1.out.trans (hb2.mono HB1.out.size)
    have HQ2 : Hid (w2.heap[w.heap.size]? = some (.cells #[.slice none 0 0, .slice none 0 0, .int .i64 0, .int .i64 0] 25)) := (hb2.block _ (Array.getElem?_eq_some_iff.1 HQ1.out).1).trans HQ1.out
    obtain ⟨a1, c1, hv2⟩ := own_form hma.1
    obtain ⟨a2, c2, hv3⟩ := hma.2.1.form
    subst hv2 hv3
    clear hma
    clear hb2
    by_cases he2 : e2 = 0
    · subst he2
      obtain ⟨ce, hce⟩ : ∃ ce, checkM m2 = ce := ⟨_, rfl⟩
      have HCE : Hid (checkM m2 = ce) := hce
      clear hce
      unfold modV
      go_wp2_with fail
      have hlt2 : w.heap.size < w2.heap.size := (Array.getElem?_eq_some_iff.1 HQ2.out).1
      have HM3 : Hid (ModR w1.heap.size (w2.alloc (.cells #[.slice a1 m2.vars.length c1, .slice a2 m2.cons.length c2, .int .i64 m2.goal, .int .i64 m2.var] 25)) (.slice a1 m2.vars.length c1) (.slice a2 m2.cons.length c2) m2) := HMA.out.below (below_alloc _ _)
      have HB3 : Hid (Below w.heap.size w (w2.alloc (.cells #[.slice a1 m2.vars.length c1, .slice a2 m2.cons.length c2, .int .i64 m2.goal, .int .i64 m2.var] 25))) := HB2.out.trans ((below_alloc _ _).mono HB2.out.size)
      have HQ3 : Hid ((w2.alloc (.cells #[.slice a1 m2.vars.length c1, .slice a2 m2.cons.length c2, .int .i64 m2.goal, .int .i64 m2.var] 25)).heap[w.heap.size]? = some (.cells #[.slice none 0 0, .slice none 0 0, .int .i64 0, .int .i64 0] 25)) := ((below_alloc _ _).block _ hlt2).trans HQ2.out
      have HC3 : Hid ((w2.alloc (.cells #[.slice a1 m2.vars.length c1, .slice a2 m2.cons.length c2, .int .i64 m2.goal, .int .i64 m2.var] 25)).heap[w2.heap.size]? = some (.cells #[.slice a1 m2.vars.length c1, .slice a2 m2.cons.length c2, .int .i64 m2.goal, .int .i64 m2.var] 25)) := heap_alloc_new _ _
      refine (check_model m2 _ _ _ HM3.out.marg).mono ?_
      rw [HCE.out]
      rintro e w4 ⟨rfl, hb4⟩
      have HM4 : Hid (ModR w1.heap.size w4 (.slice a1 m2.vars.length c1) (.slice a2 m2.cons.length c2) m2) := HM3.out.below hb4
      have HB4 : Hid (Below w.heap.size w w4) := HB3.out.trans (hb4.mono HB3.out.size)
      have HQ4 : Hid (w4.heap[w.heap.size]? = some (.cells #[.slice none 0 0, .slice none 0 0, .int .i64 0, .int .i64 0] 25)) := (hb4.block _ (Array.getElem?_eq_some_iff.1 HQ3.out).1).trans HQ3.out
      have HC4 : Hid (w4.heap[w2.heap.size]? = some (.cells #[.slice a1 m2.vars.length c1, .slice a2 m2.cons.length c2, .int .i64 m2.goal, .int .i64 m2.var] 25)) := (hb4.block _ (Array.getElem?_eq_some_iff.1 HC3.out).1).trans HC3.out
      clear hb4 HM3 HB3 HQ3 HC3
      have d0 := blk9 HC4.out 0 _ rfl
      have d1 := blk9 HC4.out 1 _ rfl
      have d2 := blk9 HC4.out 2 _ rfl
      have d3 := blk9 HC4.out 3 _ rfl
      have r0 := blk9 HQ4.out 0 _ rfl
      have r1 := blk9 HQ4.out 1 _ rfl
      have r2 := blk9 HQ4.out 2 _ rfl
      have r3 := blk9 HQ4.out 3 _ rfl
      have z0 := frz9 HQ4.out 0
      have z1 := frz9 HQ4.out 1
      have z2 := frz9 HQ4.out 2
      have z3 := frz9 HQ4.out 3
      by_cases hc : ce = 0
      · subst hc
        have HX : Hid (m0 = m2 ∧ x0 = 0 ∧ e0 = 0) := by
          have h := HA.out
          rw [parse_ok HSC.out HR.out HCE.out] at h
          cases h
          exact ⟨rfl, rfl, rfl⟩
        go_wp2
        refine bodyPost_ret (by simp [results, Tryz.results6, go_sem, *]; try rfl) rfl ?_
        obtain ⟨k0, k1, k2⟩ := HX.out
        subst k0 k1 k2
        exact ⟨_, _, rfl, ret4_mod HM4.out HWW.out _ _ _ _, ret4 HB4.out _ _ _ _⟩
      · have hcb : (ce != 0) = true := by simpa using hc
        have HX : Hid (m0 = noMod ∧ x0 = 0 ∧ e0 = ce) := by
          have h := HA.out
          rw [parse_check HSC.out HR.out (by rw [HCE.out]; exact hc), HCE.out] at h
          cases h
          exact ⟨rfl, rfl, rfl⟩
        clear hc
        go_wp2
        refine bodyPost_ret (by simp [results, Tryz.results6, go_sem, *]; try rfl) rfl ?_
        obtain ⟨k0, k1, k2⟩ := HX.out
        subst k0 k1 k2
        exact ⟨_, _, rfl, modr_none _ _, ret4 HB4.out _ _ _ _⟩
    · have he2b : (e2 != 0) = true := by simpa using he2
      have HX : Hid (m0 = noMod ∧ x0 = x2 ∧ e0 = e2) := by
        have h := HA.out
        rw [parse_read HSC.out HR.out he2] at h
        cases h
        exact ⟨rfl, rfl, rfl⟩
      have r0 := blk9 HQ2.out 0 _ rfl
      have r1 := blk9 HQ2.out 1 _ rfl
      have r2 := blk9 HQ2.out 2 _ rfl
      have r3 := blk9 HQ2.out 3 _ rfl
      have z0 := frz9 HQ2.out 0
      have z1 := frz9 HQ2.out 1
      have z2 := frz9 HQ2.out 2
      have z3 := frz9 HQ2.out 3
      have hlt2 : w.heap.size < w2.heap.size := (Array.getElem?_eq_some_iff.1 HQ2.out).1
      have HB3 : Hid (Below w.heap.size w (w2.alloc (.cells #[.slice a1 m2.vars.length c1, .slice a2 m2.cons.length c2, .int .i64 m2.goal, .int .i64 m2.var] 25))) := HB2.out.trans ((below_alloc _ _).mono HB2.out.size)
      clear he2
      unfold modV
      go_wp2
      refine bodyPost_ret (by simp [results, Tryz.results6, go_sem, *]; try rfl) rfl ?_
      obtain ⟨k0, k1, k2⟩ := HX.out
      subst k0 k1 k2
      refine ⟨_, _, rfl, modr_none _ _, ?_⟩
      rw [← World.setCell_alloc_past _ _ _ _ (by simpa using hlt2), ← World.setCell_alloc_past _ _ _ _ (by simpa using hlt2), ← World.setCell_alloc_past _ _ _ _ (by simpa using hlt2), ← World.setCell_alloc_past _ _ _ _ (by simpa using hlt2)]
      exact ret4 HB3.out _ _ _ _
  · have he1b : (e1 != 0) = true := by simpa using he1
    have HX : Hid (m0 = noMod ∧ x0 = (at1 : Int) ∧ e0 = e1) := by
      have h := HA.out
      rw [parse_scan HSC.out he1] at h
      cases h
      exact ⟨rfl, rfl, rfl⟩
    have r0 := blk9 HQ1.out 0 _ rfl
    have r1 := blk9 HQ1.out 1 _ rfl
    have r2 := blk9 HQ1.out 2 _ rfl
    have r3 := blk9 HQ1.out 3 _ rfl
    have z0 := frz9 HQ1.out 0
    have z1 := frz9 HQ1.out 1
    have z2 := frz9 HQ1.out 2
    have z3 := frz9 HQ1.out 3
    clear he1
    go_wp2
    refine bodyPost_ret (by simp [results, Tryz.results6, go_sem, *]; try rfl) rfl ?_
    obtain ⟨k0, k1, k2⟩ := HX.out
    subst k0 k1 k2
    exact ⟨_, _, rfl, modr_none _ _, ret4 HB1.out _ _ _ _⟩
end Go.Proofs.YtggkbhafbhhhhabGreatDoor
