/-
  PART 14 of what the proof leans on (TxtW, PfD).
-/
import Derived.Test.YtdjbejlbmaiocabGreatDoorPartM
/-
  WALKS: textBegun, TextBack.
-/
namespace Go.Proofs.YtdjbejlbmaiocabGreatDoor
open Go.RowKit

theorem numB_0 : numB 0 = ⟨#[48]⟩ := by unfold numB Lib.itoa; rw [if_neg (by decide)]; rw [Lib.decDigits, dif_pos (by decide)]; rfl
theorem numB_1 : numB 1 = ⟨#[49]⟩ := by unfold numB Lib.itoa; rw [if_neg (by decide)]; rw [Lib.decDigits, dif_pos (by decide)]; rfl
theorem numB_2 : numB 2 = ⟨#[50]⟩ := by unfold numB Lib.itoa; rw [if_neg (by decide)]; rw [Lib.decDigits, dif_pos (by decide)]; rfl
theorem numB_m1 : numB (-1) = ⟨#[45, 49]⟩ := by unfold numB Lib.itoa; rw [if_pos (by decide)]; rw [Lib.decDigits, dif_pos (by decide)]; rfl
def twoT : List UInt8 := [118, 97, 114, 32, 120, 58, 32, 48, 46, 46, 50, 59, 10, 118, 97, 114, 32, 121, 58, 32, 48, 46, 46, 50, 59, 10, 99, 111, 110, 32, 108, 101, 32, 91, 49, 44, 32, 45, 49, 93, 32, 91, 120, 44, 32, 121, 93, 32, 45, 49, 59, 10, 115, 111, 108, 118, 101, 32, 108, 101, 97, 115, 116, 32, 121, 59, 10]
theorem two_text : modB twoM = twoT := by
  have hv : varLine ⟨⟨#[120]⟩, 0, 2⟩ = [118, 97, 114, 32, 120, 58, 32, 48, 46, 46, 50, 59, 10] := by
    unfold varLine; simp only; rw [numB_0, numB_2]; kernel_rfl
  have hw : varLine ⟨⟨#[121]⟩, 0, 2⟩ = [118, 97, 114, 32, 121, 58, 32, 48, 46, 46, 50, 59, 10] := by
    unfold varLine; simp only; rw [numB_0, numB_2]; kernel_rfl
  have hc : conLine twoM.vars ⟨1, [0, 1], [1, -1], -1, [], []⟩ = [99, 111, 110, 32, 108, 101, 32, 91, 49, 44, 32, 45, 49, 93, 32, 91, 120, 44, 32, 121, 93, 32, 45, 49, 59, 10] := by
    unfold conLine partsB
    rw [if_pos (by decide)]
    unfold numsB
    simp only [List.map_cons, List.map_nil]
    rw [numB_1, numB_m1]; kernel_rfl
  have hg : goalLine twoM = [115, 111, 108, 118, 101, 32, 108, 101, 97, 115, 116, 32, 121, 59, 10] := by kernel_rfl
  show varLine ⟨⟨#[120]⟩, 0, 2⟩ ++ (varLine ⟨⟨#[121]⟩, 0, 2⟩ ++ []) ++ ((conLine twoM.vars ⟨1, [0, 1], [1, -1], -1, [], []⟩ ++ []) ++ goalLine twoM) = twoT
  rw [hv, hw, hc, hg]
  rfl
theorem two_prints : printA twoM = (⟨twoT.toArray⟩, 0) := by unfold printA; rw [if_pos two_checks, two_text]
theorem two_parses : parseA ⟨twoT.toArray⟩ = (twoM, 0, 0) := by
  have := print_parse twoM two_checks (by rw [two_text]; decide)
  rwa [two_text] at this
set_option maxHeartbeats 3200000 in
set_option maxRecDepth 100000 in
theorem begun_text (N : Nat) (w : World) (ht : TabN N w) (hN : N ≤ w.heap.size) :
    Calls Tryz.prog 8 #[] w fun e w' => e = .returned (.bool true) ∧ Below w.heap.size w w' := by
  have HT : Hid (TabN N w) := ht
  clear ht
  go_enter Tryz.func8, Tryz.ntmps8
  go_wp2_with fail
  refine (two_any _).mono ?_
  rintro e w1 ⟨vs, cs, rfl, hm1, hb1⟩
  have HB1 : Hid (Below w.heap.size w w1) := hb1
  have HM1 : Hid (MArg w1 vs cs twoM) := hm1
  clear hb1
  obtain ⟨⟨a1, c1, rfl, _, _⟩, ⟨a2, c2, rfl, _, _⟩⟩ := hm1
  go_wp2_with fail
  refine (print_any N twoM _ _ w1 HM1.out (HT.out.below HB1.out) (Nat.le_trans hN HB1.out.size)).mono ?_
  rw [two_prints]
  obtain ⟨st, hst⟩ : ∃ st, (⟨twoT.toArray⟩ : ByteArray) = st := ⟨_, rfl⟩
  have HST : Hid ((⟨twoT.toArray⟩ : ByteArray) = st) := hst
  simp only
  rw [hst]
  clear hst
  rintro e w2 ⟨rfl, hb2⟩
  have HB2 : Hid (Below w.heap.size w w2) := HB1.out.trans (hb2.mono HB1.out.size)
  clear hb2
  go_wp2_with fail
  refine (parse_any st (by rw [← HST.out]; unfold maxLen; decide) w2).mono ?_
  rw [← HST.out, two_parses, HST.out]
  simp only
  rintro e w3 ⟨us, ts, rfl, hm3, hb3⟩
  have HB3 : Hid (Below w.heap.size w w3) := HB2.out.trans (hb3.mono HB2.out.size)
  have HM3 : Hid (MArg w3 us ts twoM) := hm3.marg
  have hma := hm3.marg
  clear hb3 hm3
  obtain ⟨⟨b1, d1, rfl, _, _⟩, ⟨b2, d2, rfl, _, _⟩⟩ := hma
  unfold modV
  go_wp2_with fail
  obtain ⟨W, hW⟩ : ∃ W, W = w3.alloc (.cells #[.slice b1 twoM.vars.length d1, .slice b2 twoM.cons.length d2, .int .i64 twoM.goal, .int .i64 twoM.var] 25) := ⟨_, rfl⟩
  have HBW : Hid (Below w3.heap.size w3 W) := by show Below _ _ _; rw [hW]; exact below_alloc _ _
  have HQ : W.heap[w3.heap.size]? = some (.cells #[.slice b1 twoM.vars.length d1, .slice b2 twoM.cons.length d2, .int .i64 twoM.goal, .int .i64 twoM.var] 25) := by rw [hW]; exact heap_alloc_new _ _
  have hlt : w3.heap.size < W.heap.size := (Array.getElem?_eq_some_iff.1 HQ).1
  have k0 : W.cell? ⟨w3.heap.size, 0, none⟩ = some (.slice b1 twoM.vars.length d1) := blk9 HQ 0 _ rfl
  have k1 : W.cell? ⟨w3.heap.size, 1, none⟩ = some (.slice b2 twoM.cons.length d2) := blk9 HQ 1 _ rfl
  have k2 : W.cell? ⟨w3.heap.size, 2, none⟩ = some (.int .i64 twoM.goal) := blk9 HQ 2 _ rfl
  have k3 : W.cell? ⟨w3.heap.size, 3, none⟩ = some (.int .i64 twoM.var) := blk9 HQ 3 _ rfl
  rw [← hW]
  clear hW HQ
  have HM4 : Hid (MArg W (.slice b1 twoM.vars.length d1) (.slice b2 twoM.cons.length d2) twoM) := MArg.below HBW.out HM3.out
  have HB4 : Hid (Below w.heap.size w W) := HB3.out.trans (HBW.out.mono HB3.out.size)
  have t8 : (st.toList == twoT) = true := by rw [← HST.out, ba_list]; decide
  unfold twoT at t8
  clear HST
  go_region_held3 (fun Y => Below W.heap.size W Y ∧ Y.cell? ⟨w3.heap.size, 0, none⟩ = some (.slice b1 twoM.vars.length d1) ∧ Y.cell? ⟨w3.heap.size, 1, none⟩ = some (.slice b2 twoM.cons.length d2) ∧ Y.cell? ⟨w3.heap.size, 2, none⟩ = some (.int .i64 twoM.goal) ∧ Y.cell? ⟨w3.heap.size, 3, none⟩ = some (.int .i64 twoM.var))
    ((refine (fun (hB : Below W.heap.size W _) => ⟨hB, (hB.cell (p := ⟨w3.heap.size, 0, none⟩) hlt).trans k0, (hB.cell (p := ⟨w3.heap.size, 1, none⟩) hlt).trans k1, (hB.cell (p := ⟨w3.heap.size, 2, none⟩) hlt).trans k2, (hB.cell (p := ⟨w3.heap.size, 3, none⟩) hlt).trans k3⟩ : Below W.heap.size W _ → _) ?_; first | exact (Below.refl _ _).drew | exact hb6 | exact hb5 | exact (show Below W.heap.size W _ ∧ _ by assumption).1))
    (first
      | (go_at_call 26; refine (two_any _).mono ?_; rintro e w5 ⟨vs5, cs5, rfl, hm5, hbq⟩; have hb5 := call_below9 (by assumption) hbq; obtain ⟨a5, c5, rfl, _, _⟩ := id hm5.1; obtain ⟨a6, c6, rfl, _, _⟩ := id hm5.2; unfold modV)
      | (go_at_call 9; refine (show Calls Tryz.prog 9 #[modV (.slice b1 twoM.vars.length d1) (.slice b2 twoM.cons.length d2) twoM, modV (.slice a5 twoM.vars.length c5) (.slice a6 twoM.cons.length c6) twoM] w5 _ from samemodel_eq twoM _ _ _ _ w5 (MArg.below hb5 HM4.out) hm5).mono ?_; rintro e w6 ⟨rfl, hbq⟩; have hb6 := hb5.trans (hbq.mono hb5.size)))
  have HE : Hid (Below w.heap.size w w6) := HB4.out.trans (hb6.mono HB4.out.size)
  go_wp2
  go_ret
  exact ⟨rfl, HE.out⟩
theorem modB_len {m : Mod} (hok : ModOk m) (h6 : m.vars.length ≤ 6) (h8 : m.cons.length ≤ 8) : (modB m).length ≤ 1000000 := by
  have h1 := flat_max varLine 10002 m.vars (fun y hy => (varLine_len (hok.vars y hy)).2.1)
  have h2 := flat_max (conLine m.vars) 10002 m.cons (fun y hy => (conLine_len (names_short hok.names) (hok.cons y hy)).2)
  have h3 := (goalLine_len (names_short hok.names) hok.goal).2.2
  have h4 : m.cons.length * 10002 ≤ 8 * 10002 := Nat.mul_le_mul_right _ h8
  have h5 : m.vars.length * 10002 ≤ 6 * 10002 := Nat.mul_le_mul_right _ h6
  unfold modB
  rw [List.length_append, List.length_append]; omega
/-- What is printed of a right model: not too long, and parsed as it was if it is short. -/
theorem print_back {m : Mod} (h : checkM m = 0) : ∃ st, printA m = (st, 0) ∧ st.size ≤ 1000000 ∧ (st.size ≤ 4000 → parseA st = (m, 0, 0)) := by
  have hc := checkM_vars m h
  have hl := modB_len (mod_ok m h) hc.2.1 hc.2.2.1
  have hsz : (⟨(modB m).toArray⟩ : ByteArray).size = (modB m).length := by rw [← len_size]
  refine ⟨⟨(modB m).toArray⟩, by unfold printA; rw [if_pos h], by rw [hsz]; exact hl, fun h4 => print_parse m h (by rw [hsz] at h4; exact h4)⟩
set_option maxHeartbeats 6400000 in
set_option maxRecDepth 100000 in
theorem back_any (N : Nat) (m : Mod) (s : ByteArray) (vs cs : Value) (w : World) (hm : MArg w vs cs m) (hs : s.size ≤ maxLen) (ht : TabN N w) (hN : N ≤ w.heap.size) :
    Calls Tryz.prog 5 #[modV vs cs m, .string s] w fun e w' => e = .returned (.bool true) ∧ Below w.heap.size w w' := by
  have HT : Hid (∀ Y, Below w.heap.size w Y → TabN N Y ∧ N ≤ Y.heap.size) := fun Y hY => ⟨ht.below hY, Nat.le_trans hN hY.size⟩
  have HM : Hid (∀ Y, Below w.heap.size w Y → MArg Y vs cs m) := fun Y hY => MArg.below hY hm
  have HSZ : Hid (s.size ≤ maxLen) := hs
  obtain ⟨⟨a1, c1, rfl, _, _⟩, ⟨a2, c2, rfl, _, _⟩⟩ := hm
  unfold modV
  clear ht hs
  go_enter Tryz.func5, Tryz.ntmps5
  go_wp2_with fail
  obtain ⟨W, hW⟩ : ∃ W, W = w.alloc (.cells #[.slice a1 m.vars.length c1, .slice a2 m.cons.length c2, .int .i64 m.goal, .int .i64 m.var] 25) := ⟨_, rfl⟩
  have HBW : Hid (Below w.heap.size w W) := by show Below _ _ _; rw [hW]; exact below_alloc _ _
  have HQ : W.heap[w.heap.size]? = some (.cells #[.slice a1 m.vars.length c1, .slice a2 m.cons.length c2, .int .i64 m.goal, .int .i64 m.var] 25) := by rw [hW]; exact heap_alloc_new _ _
  rw [← hW]
  clear hW
  refine (begun_text N W (HT.out W HBW.out).1 (HT.out W HBW.out).2).mono ?_
  rintro e w1 ⟨rfl, hb1⟩
  have HB1 : Hid (Below w.heap.size w w1) := HBW.out.trans (hb1.mono HBW.out.size)
  have HQ1 : w1.heap[w.heap.size]? = some (.cells #[.slice a1 m.vars.length c1, .slice a2 m.cons.length c2, .int .i64 m.goal, .int .i64 m.var] 25) := (hb1.block _ (Array.getElem?_eq_some_iff.1 HQ).1).trans HQ
  have k0 : w1.cell? ⟨w.heap.size, 0, none⟩ = some (.slice a1 m.vars.length c1) := blk9 HQ1 0 _ rfl
  have k1 : w1.cell? ⟨w.heap.size, 1, none⟩ = some (.slice a2 m.cons.length c2) := blk9 HQ1 1 _ rfl
  have k2 : w1.cell? ⟨w.heap.size, 2, none⟩ = some (.int .i64 m.goal) := blk9 HQ1 2 _ rfl
  have k3 : w1.cell? ⟨w.heap.size, 3, none⟩ = some (.int .i64 m.var) := blk9 HQ1 3 _ rfl
  have HL1 : w.heap.size < w1.heap.size := (Array.getElem?_eq_some_iff.1 HQ1).1
  clear HQ HQ1 hb1 HBW
  go_wp2_with fail
  refine (show Calls Tryz.prog 10 #[modV (.slice a1 m.vars.length c1) (.slice a2 m.cons.length c2) m] w1 _ from print_any N m _ _ w1 (HM.out w1 HB1.out) (HT.out w1 HB1.out).1 (HT.out w1 HB1.out).2).mono ?_
  obtain ⟨st, er, hpa, hcs⟩ : ∃ st er, printA m = (st, er) ∧ (er = 0 → st.size ≤ 1000000 ∧ (st.size ≤ 4000 → parseA st = (m, 0, 0))) := by
    by_cases h : checkM m = 0
    · obtain ⟨st, h1, h2⟩ := print_back h
      exact ⟨st, 0, h1, fun _ => h2⟩
    · exact ⟨⟨#[]⟩, checkM m, by unfold printA; rw [if_neg h], fun h' => absurd h' h⟩
  have HCS : Hid (er = 0 → st.size ≤ 1000000 ∧ (st.size ≤ 4000 → parseA st = (m, 0, 0))) := hcs
  rw [hpa]
  simp only
  clear hpa hcs
  rintro e w2 ⟨rfl, hb2⟩
  have HB2 : Hid (Below w.heap.size w w2) := HB1.out.trans (hb2.mono HB1.out.size)
  have HL2 : w.heap.size < w2.heap.size := Nat.lt_of_lt_of_le HL1 hb2.size
  have j0 := (hb2.cell (p := ⟨w.heap.size, 0, none⟩) HL1).trans k0
  have j1 := (hb2.cell (p := ⟨w.heap.size, 1, none⟩) HL1).trans k1
  have j2 := (hb2.cell (p := ⟨w.heap.size, 2, none⟩) HL1).trans k2
  have j3 := (hb2.cell (p := ⟨w.heap.size, 3, none⟩) HL1).trans k3
  clear hb2 k0 k1 k2 k3 HL1
  cases t0 : (er == 0)
  · go_wp2_with fail
    refine (parse_any s HSZ.out w2).mono ?_
    obtain ⟨n, x, ef, hpa⟩ : ∃ n x ef, parseA s = (n, x, ef) := ⟨_, _, _, rfl⟩
    have HRI : Hid ((ef = 0 → checkM n = 0) ∧ (ef ≠ 0 → n = noMod)) := by have h := parse_right s; rw [hpa] at h; exact h
    rw [hpa]
    simp only
    clear hpa
    rintro e x1 ⟨us, ts, rfl, hm3, hb3⟩
    have HB3 : Hid (Below w.heap.size w x1) := HB2.out.trans (hb3.mono HB2.out.size)
    have HM3 : Hid (MArg x1 us ts n) := hm3.marg
    have hma := hm3.marg
    clear hb3 hm3
    obtain ⟨⟨b1, d1, rfl, _, _⟩, ⟨b2, d2, rfl, _, _⟩⟩ := hma
    unfold modV
    cases t1 : (ef != 0)
    · have he : ef = 0 := by simpa using t1
      subst he
      have HC0 : Hid (checkM n = 0) := HRI.out.1 rfl
      go_wp2_with fail
      obtain ⟨X, hX⟩ : ∃ X, X = x1.alloc (.cells #[.slice b1 n.vars.length d1, .slice b2 n.cons.length d2, .int .i64 n.goal, .int .i64 n.var] 25) := ⟨_, rfl⟩
      have HBX : Hid (Below x1.heap.size x1 X) := by show Below _ _ _; rw [hX]; exact below_alloc _ _
      have HBY : Hid (Below w.heap.size w X) := HB3.out.trans (HBX.out.mono HB3.out.size)
      have HQX : X.heap[x1.heap.size]? = some (.cells #[.slice b1 n.vars.length d1, .slice b2 n.cons.length d2, .int .i64 n.goal, .int .i64 n.var] 25) := by rw [hX]; exact heap_alloc_new _ _
      rw [← hX]
      clear hX
      refine (show Calls Tryz.prog 10 #[modV (.slice b1 n.vars.length d1) (.slice b2 n.cons.length d2) n] X _ from print_any N n _ _ X (MArg.below HBX.out HM3.out) (HT.out X HBY.out).1 (HT.out X HBY.out).2).mono ?_
      obtain ⟨sn, hpn, hsn, hpp⟩ := print_back HC0.out
      rw [hpn]
      simp only
      rintro e x2 ⟨rfl, hb4⟩
      have HB4 : Hid (Below x1.heap.size x1 x2) := HBX.out.trans (hb4.mono HBX.out.size)
      have HQ4 : x2.heap[x1.heap.size]? = some (.cells #[.slice b1 n.vars.length d1, .slice b2 n.cons.length d2, .int .i64 n.goal, .int .i64 n.var] 25) := (hb4.block _ (Array.getElem?_eq_some_iff.1 HQX).1).trans HQX
      have HPP : Hid (sn.size ≤ 4000 → parseA sn = (n, 0, 0)) := hpp
      clear hpn hpp hb4 HQX
      go_wp2_with fail
      refine (parse_any sn (by unfold maxLen; omega) x2).mono ?_
      obtain ⟨kk, xx, eg, hpk⟩ : ∃ kk xx eg, parseA sn = (kk, xx, eg) := ⟨_, _, _, rfl⟩
      have HPK : Hid (sn.size ≤ 4000 → kk = n ∧ eg = 0) := fun h => by have h1 := HPP.out h; rw [hpk] at h1; cases h1; exact ⟨rfl, rfl⟩
      rw [hpk]
      simp only
      clear hpk
      rintro e x3 ⟨us5, ts5, rfl, hm5, hb5⟩
      have HB5 : Hid (Below x1.heap.size x1 x3) := HB4.out.trans (hb5.mono HB4.out.size)
      have HQ5 : x3.heap[x1.heap.size]? = some (.cells #[.slice b1 n.vars.length d1, .slice b2 n.cons.length d2, .int .i64 n.goal, .int .i64 n.var] 25) := (hb5.block _ (Array.getElem?_eq_some_iff.1 HQ4).1).trans HQ4
      have HM5 : Hid (MArg x3 us5 ts5 kk) := hm5.marg
      have hma := hm5.marg
      clear hb5 hm5 HQ4
      obtain ⟨⟨b3, d3, rfl, _, _⟩, ⟨b4, d4, rfl, _, _⟩⟩ := hma
      unfold modV
      have p0 : x3.cell? ⟨x1.heap.size, 0, none⟩ = some (.slice b1 n.vars.length d1) := blk9 HQ5 0 _ rfl
      have p1 : x3.cell? ⟨x1.heap.size, 1, none⟩ = some (.slice b2 n.cons.length d2) := blk9 HQ5 1 _ rfl
      have p2 : x3.cell? ⟨x1.heap.size, 2, none⟩ = some (.int .i64 n.goal) := blk9 HQ5 2 _ rfl
      have p3 : x3.cell? ⟨x1.heap.size, 3, none⟩ = some (.int .i64 n.var) := blk9 HQ5 3 _ rfl
      have hl5 : x1.heap.size < x3.heap.size := (Array.getElem?_eq_some_iff.1 HQ5).1
      have HEN : Hid (∀ Y, Below x3.heap.size x3 Y → Below w.heap.size w Y) := fun Y hY => HB3.out.trans ((HB5.out.trans (hY.mono HB5.out.size)).mono HB3.out.size)
      clear HQ5
      by_cases h4 : sn.size ≤ 4000
      · obtain ⟨rfl, rfl⟩ := HPK.out h4
        have t2 : decide ((4000 : Int) < (sn.size : Int)) = false := by simp; omega
        have t3 : ¬ ((4000 : Int) < (sn.size : Int)) := by omega
        have t4 : (sn.size : Int) ≤ 4000 := by omega
        go_wp2_with fail
        refine (show Calls Tryz.prog 9 #[modV (.slice b1 kk.vars.length d1) (.slice b2 kk.cons.length d2) kk, modV (.slice b3 kk.vars.length d3) (.slice b4 kk.cons.length d4) kk] _ _ from samemodel_eq kk _ _ _ _ _ (MArg.below (HB5.out.trans ((below_alloc _ _).mono HB5.out.size)) HM3.out) (MArg.below (below_alloc _ _) HM5.out)).mono ?_
        rintro e x4 ⟨rfl, hb6⟩
        have HE : Hid (Below w.heap.size w x4) := HEN.out x4 ((below_alloc _ _).trans (hb6.mono (by simp)))
        clear hb6
        go_wp2
        go_ret
        exact ⟨rfl, HE.out⟩
      · have t2 : decide ((4000 : Int) < (sn.size : Int)) = true := by simp; omega
        have t3 : (4000 : Int) < (sn.size : Int) := by omega
        go_wp2
        go_ret
        exact ⟨rfl, HEN.out _ (below_alloc _ _)⟩
    · have he : ¬ ef = 0 := by simpa using t1
      have hn := HRI.out.2 he
      have e0 : n.vars.length = 0 := by rw [hn]; rfl
      have e1 : n.cons.length = 0 := by rw [hn]; rfl
      have HEN : Hid (∀ Y, Below x1.heap.size x1 Y → Below w.heap.size w Y) := fun Y hY => HB3.out.trans (hY.mono HB3.out.size)
      clear hn he
      go_wp2
      go_ret
      exact ⟨rfl, HEN.out _ (below_alloc _ _)⟩
  · have he : er = 0 := by simpa using t0
    subst he
    by_cases hz4 : st.size ≤ 4000
    · have HPS : Hid (parseA st = (m, 0, 0)) := (HCS.out rfl).2 hz4
      have q1 : ((st.size : Int) ≤ 4000) := by omega
      have q2 : decide ((st.size : Int) ≤ 4000) = true := decide_eq_true q1
      go_wp2_with fail
      refine (parse_any st (by unfold maxLen; omega) w2).mono ?_
      rw [HPS.out]
      simp only
      rintro e w3 ⟨us, ts, rfl, hm3, hb3⟩
      have HM3 : Hid (MArg w3 us ts m) := hm3.marg
      have hma := hm3.marg
      have HB3 : Hid (Below w.heap.size w w3) := HB2.out.trans (hb3.mono HB2.out.size)
      have l0 := (hb3.cell (p := ⟨w.heap.size, 0, none⟩) HL2).trans j0
      have l1 := (hb3.cell (p := ⟨w.heap.size, 1, none⟩) HL2).trans j1
      have l2 := (hb3.cell (p := ⟨w.heap.size, 2, none⟩) HL2).trans j2
      have l3 := (hb3.cell (p := ⟨w.heap.size, 3, none⟩) HL2).trans j3
      have HL3 : w.heap.size < w3.heap.size := Nat.lt_of_lt_of_le HL2 hb3.size
      clear hb3 hm3 j0 j1 j2 j3
      obtain ⟨⟨b1, d1, rfl, _, _⟩, ⟨b2, d2, rfl, _, _⟩⟩ := hma
      unfold modV
      go_wp2_with fail
      refine (show Calls Tryz.prog 9 #[modV (.slice a1 m.vars.length c1) (.slice a2 m.cons.length c2) m, modV (.slice b1 m.vars.length d1) (.slice b2 m.cons.length d2) m] _ _ from samemodel_eq m _ _ _ _ _ (HM.out _ (HB3.out.trans ((below_alloc _ _).mono HB3.out.size))) (MArg.below (below_alloc _ _) HM3.out)).mono ?_
      rintro e w5 ⟨rfl, hb5⟩
      have HB9 : Hid (Below w.heap.size w w5) := HB3.out.trans (((below_alloc _ _).trans (hb5.mono (by simp))).mono HB3.out.size)
      clear hb5 l0 l1 l2 l3 HM3 HB3
      go_wp2_with fail
      refine (parse_any s HSZ.out w5).mono ?_
      obtain ⟨n, x, ef, hpa⟩ : ∃ n x ef, parseA s = (n, x, ef) := ⟨_, _, _, rfl⟩
      have HRI : Hid ((ef = 0 → checkM n = 0) ∧ (ef ≠ 0 → n = noMod)) := by have h := parse_right s; rw [hpa] at h; exact h
      rw [hpa]
      simp only
      clear hpa
      rintro e x1 ⟨us, ts, rfl, hm3, hb3⟩
      have HB3 : Hid (Below w.heap.size w x1) := HB9.out.trans (hb3.mono HB9.out.size)
      have HM3 : Hid (MArg x1 us ts n) := hm3.marg
      have hma := hm3.marg
      clear hb3 hm3
      obtain ⟨⟨b1, d1, rfl, _, _⟩, ⟨b2, d2, rfl, _, _⟩⟩ := hma
      unfold modV
      cases t1 : (ef != 0)
      · have he : ef = 0 := by simpa using t1
        subst he
        have HC0 : Hid (checkM n = 0) := HRI.out.1 rfl
        go_wp2_with fail
        obtain ⟨X, hX⟩ : ∃ X, X = x1.alloc (.cells #[.slice b1 n.vars.length d1, .slice b2 n.cons.length d2, .int .i64 n.goal, .int .i64 n.var] 25) := ⟨_, rfl⟩
        have HBX : Hid (Below x1.heap.size x1 X) := by show Below _ _ _; rw [hX]; exact below_alloc _ _
        have HBY : Hid (Below w.heap.size w X) := HB3.out.trans (HBX.out.mono HB3.out.size)
        have HQX : X.heap[x1.heap.size]? = some (.cells #[.slice b1 n.vars.length d1, .slice b2 n.cons.length d2, .int .i64 n.goal, .int .i64 n.var] 25) := by rw [hX]; exact heap_alloc_new _ _
        rw [← hX]
        clear hX
        refine (show Calls Tryz.prog 10 #[modV (.slice b1 n.vars.length d1) (.slice b2 n.cons.length d2) n] X _ from print_any N n _ _ X (MArg.below HBX.out HM3.out) (HT.out X HBY.out).1 (HT.out X HBY.out).2).mono ?_
        obtain ⟨sn, hpn, hsn, hpp⟩ := print_back HC0.out
        rw [hpn]
        simp only
        rintro e x2 ⟨rfl, hb4⟩
        have HB4 : Hid (Below x1.heap.size x1 x2) := HBX.out.trans (hb4.mono HBX.out.size)
        have HQ4 : x2.heap[x1.heap.size]? = some (.cells #[.slice b1 n.vars.length d1, .slice b2 n.cons.length d2, .int .i64 n.goal, .int .i64 n.var] 25) := (hb4.block _ (Array.getElem?_eq_some_iff.1 HQX).1).trans HQX
        have HPP : Hid (sn.size ≤ 4000 → parseA sn = (n, 0, 0)) := hpp
        clear hpn hpp hb4 HQX
        go_wp2_with fail
        refine (parse_any sn (by unfold maxLen; omega) x2).mono ?_
        obtain ⟨kk, xx, eg, hpk⟩ : ∃ kk xx eg, parseA sn = (kk, xx, eg) := ⟨_, _, _, rfl⟩
        have HPK : Hid (sn.size ≤ 4000 → kk = n ∧ eg = 0) := fun h => by have h1 := HPP.out h; rw [hpk] at h1; cases h1; exact ⟨rfl, rfl⟩
        rw [hpk]
        simp only
        clear hpk
        rintro e x3 ⟨us5, ts5, rfl, hm5, hb5⟩
        have HB5 : Hid (Below x1.heap.size x1 x3) := HB4.out.trans (hb5.mono HB4.out.size)
        have HQ5 : x3.heap[x1.heap.size]? = some (.cells #[.slice b1 n.vars.length d1, .slice b2 n.cons.length d2, .int .i64 n.goal, .int .i64 n.var] 25) := (hb5.block _ (Array.getElem?_eq_some_iff.1 HQ4).1).trans HQ4
        have HM5 : Hid (MArg x3 us5 ts5 kk) := hm5.marg
        have hma := hm5.marg
        clear hb5 hm5 HQ4
        obtain ⟨⟨b3, d3, rfl, _, _⟩, ⟨b4, d4, rfl, _, _⟩⟩ := hma
        unfold modV
        have p0 : x3.cell? ⟨x1.heap.size, 0, none⟩ = some (.slice b1 n.vars.length d1) := blk9 HQ5 0 _ rfl
        have p1 : x3.cell? ⟨x1.heap.size, 1, none⟩ = some (.slice b2 n.cons.length d2) := blk9 HQ5 1 _ rfl
        have p2 : x3.cell? ⟨x1.heap.size, 2, none⟩ = some (.int .i64 n.goal) := blk9 HQ5 2 _ rfl
        have p3 : x3.cell? ⟨x1.heap.size, 3, none⟩ = some (.int .i64 n.var) := blk9 HQ5 3 _ rfl
        have hl5 : x1.heap.size < x3.heap.size := (Array.getElem?_eq_some_iff.1 HQ5).1
        have HEN : Hid (∀ Y, Below x3.heap.size x3 Y → Below w.heap.size w Y) := fun Y hY => HB3.out.trans ((HB5.out.trans (hY.mono HB5.out.size)).mono HB3.out.size)
        clear HQ5
        by_cases h4 : sn.size ≤ 4000
        · obtain ⟨rfl, rfl⟩ := HPK.out h4
          have t2 : decide ((4000 : Int) < (sn.size : Int)) = false := by simp; omega
          have t3 : ¬ ((4000 : Int) < (sn.size : Int)) := by omega
          have t4 : (sn.size : Int) ≤ 4000 := by omega
          go_wp2_with fail
          refine (show Calls Tryz.prog 9 #[modV (.slice b1 kk.vars.length d1) (.slice b2 kk.cons.length d2) kk, modV (.slice b3 kk.vars.length d3) (.slice b4 kk.cons.length d4) kk] _ _ from samemodel_eq kk _ _ _ _ _ (MArg.below (HB5.out.trans ((below_alloc _ _).mono HB5.out.size)) HM3.out) (MArg.below (below_alloc _ _) HM5.out)).mono ?_
          rintro e x4 ⟨rfl, hb6⟩
          have HE : Hid (Below w.heap.size w x4) := HEN.out x4 ((below_alloc _ _).trans (hb6.mono (by simp)))
          clear hb6
          go_wp2
          go_ret
          exact ⟨rfl, HE.out⟩
        · have t2 : decide ((4000 : Int) < (sn.size : Int)) = true := by simp; omega
          have t3 : (4000 : Int) < (sn.size : Int) := by omega
          go_wp2
          go_ret
          exact ⟨rfl, HEN.out _ (below_alloc _ _)⟩
      · have he : ¬ ef = 0 := by simpa using t1
        have hn := HRI.out.2 he
        have e0 : n.vars.length = 0 := by rw [hn]; rfl
        have e1 : n.cons.length = 0 := by rw [hn]; rfl
        have HEN : Hid (∀ Y, Below x1.heap.size x1 Y → Below w.heap.size w Y) := fun Y hY => HB3.out.trans (hY.mono HB3.out.size)
        clear hn he
        go_wp2
        go_ret
        exact ⟨rfl, HEN.out _ (below_alloc _ _)⟩
    · have q1 : ¬ ((st.size : Int) ≤ 4000) := by omega
      have q2 : decide ((st.size : Int) ≤ 4000) = false := decide_eq_false q1
      have q3 : (4000 : Int) < (st.size : Int) := by omega
      go_wp2_with fail
      refine (parse_any s HSZ.out w2).mono ?_
      obtain ⟨n, x, ef, hpa⟩ : ∃ n x ef, parseA s = (n, x, ef) := ⟨_, _, _, rfl⟩
      have HRI : Hid ((ef = 0 → checkM n = 0) ∧ (ef ≠ 0 → n = noMod)) := by have h := parse_right s; rw [hpa] at h; exact h
      rw [hpa]
      simp only
      clear hpa
      rintro e x1 ⟨us, ts, rfl, hm3, hb3⟩
      have HB3 : Hid (Below w.heap.size w x1) := HB2.out.trans (hb3.mono HB2.out.size)
      have HM3 : Hid (MArg x1 us ts n) := hm3.marg
      have hma := hm3.marg
      clear hb3 hm3
      obtain ⟨⟨b1, d1, rfl, _, _⟩, ⟨b2, d2, rfl, _, _⟩⟩ := hma
      unfold modV
      cases t1 : (ef != 0)
      · have he : ef = 0 := by simpa using t1
        subst he
        have HC0 : Hid (checkM n = 0) := HRI.out.1 rfl
        go_wp2_with fail
        obtain ⟨X, hX⟩ : ∃ X, X = x1.alloc (.cells #[.slice b1 n.vars.length d1, .slice b2 n.cons.length d2, .int .i64 n.goal, .int .i64 n.var] 25) := ⟨_, rfl⟩
        have HBX : Hid (Below x1.heap.size x1 X) := by show Below _ _ _; rw [hX]; exact below_alloc _ _
        have HBY : Hid (Below w.heap.size w X) := HB3.out.trans (HBX.out.mono HB3.out.size)
        have HQX : X.heap[x1.heap.size]? = some (.cells #[.slice b1 n.vars.length d1, .slice b2 n.cons.length d2, .int .i64 n.goal, .int .i64 n.var] 25) := by rw [hX]; exact heap_alloc_new _ _
        rw [← hX]
        clear hX
        refine (show Calls Tryz.prog 10 #[modV (.slice b1 n.vars.length d1) (.slice b2 n.cons.length d2) n] X _ from print_any N n _ _ X (MArg.below HBX.out HM3.out) (HT.out X HBY.out).1 (HT.out X HBY.out).2).mono ?_
        obtain ⟨sn, hpn, hsn, hpp⟩ := print_back HC0.out
        rw [hpn]
        simp only
        rintro e x2 ⟨rfl, hb4⟩
        have HB4 : Hid (Below x1.heap.size x1 x2) := HBX.out.trans (hb4.mono HBX.out.size)
        have HQ4 : x2.heap[x1.heap.size]? = some (.cells #[.slice b1 n.vars.length d1, .slice b2 n.cons.length d2, .int .i64 n.goal, .int .i64 n.var] 25) := (hb4.block _ (Array.getElem?_eq_some_iff.1 HQX).1).trans HQX
        have HPP : Hid (sn.size ≤ 4000 → parseA sn = (n, 0, 0)) := hpp
        clear hpn hpp hb4 HQX
        go_wp2_with fail
        refine (parse_any sn (by unfold maxLen; omega) x2).mono ?_
        obtain ⟨kk, xx, eg, hpk⟩ : ∃ kk xx eg, parseA sn = (kk, xx, eg) := ⟨_, _, _, rfl⟩
        have HPK : Hid (sn.size ≤ 4000 → kk = n ∧ eg = 0) := fun h => by have h1 := HPP.out h; rw [hpk] at h1; cases h1; exact ⟨rfl, rfl⟩
        rw [hpk]
        simp only
        clear hpk
        rintro e x3 ⟨us5, ts5, rfl, hm5, hb5⟩
        have HB5 : Hid (Below x1.heap.size x1 x3) := HB4.out.trans (hb5.mono HB4.out.size)
        have HQ5 : x3.heap[x1.heap.size]? = some (.cells #[.slice b1 n.vars.length d1, .slice b2 n.cons.length d2, .int .i64 n.goal, .int .i64 n.var] 25) := (hb5.block _ (Array.getElem?_eq_some_iff.1 HQ4).1).trans HQ4
        have HM5 : Hid (MArg x3 us5 ts5 kk) := hm5.marg
        have hma := hm5.marg
        clear hb5 hm5 HQ4
        obtain ⟨⟨b3, d3, rfl, _, _⟩, ⟨b4, d4, rfl, _, _⟩⟩ := hma
        unfold modV
        have p0 : x3.cell? ⟨x1.heap.size, 0, none⟩ = some (.slice b1 n.vars.length d1) := blk9 HQ5 0 _ rfl
        have p1 : x3.cell? ⟨x1.heap.size, 1, none⟩ = some (.slice b2 n.cons.length d2) := blk9 HQ5 1 _ rfl
        have p2 : x3.cell? ⟨x1.heap.size, 2, none⟩ = some (.int .i64 n.goal) := blk9 HQ5 2 _ rfl
        have p3 : x3.cell? ⟨x1.heap.size, 3, none⟩ = some (.int .i64 n.var) := blk9 HQ5 3 _ rfl
        have hl5 : x1.heap.size < x3.heap.size := (Array.getElem?_eq_some_iff.1 HQ5).1
        have HEN : Hid (∀ Y, Below x3.heap.size x3 Y → Below w.heap.size w Y) := fun Y hY => HB3.out.trans ((HB5.out.trans (hY.mono HB5.out.size)).mono HB3.out.size)
        clear HQ5
        by_cases h4 : sn.size ≤ 4000
        · obtain ⟨rfl, rfl⟩ := HPK.out h4
          have t2 : decide ((4000 : Int) < (sn.size : Int)) = false := by simp; omega
          have t3 : ¬ ((4000 : Int) < (sn.size : Int)) := by omega
          have t4 : (sn.size : Int) ≤ 4000 := by omega
          go_wp2_with fail
          refine (show Calls Tryz.prog 9 #[modV (.slice b1 kk.vars.length d1) (.slice b2 kk.cons.length d2) kk, modV (.slice b3 kk.vars.length d3) (.slice b4 kk.cons.length d4) kk] _ _ from samemodel_eq kk _ _ _ _ _ (MArg.below (HB5.out.trans ((below_alloc _ _).mono HB5.out.size)) HM3.out) (MArg.below (below_alloc _ _) HM5.out)).mono ?_
          rintro e x4 ⟨rfl, hb6⟩
          have HE : Hid (Below w.heap.size w x4) := HEN.out x4 ((below_alloc _ _).trans (hb6.mono (by simp)))
          clear hb6
          go_wp2
          go_ret
          exact ⟨rfl, HE.out⟩
        · have t2 : decide ((4000 : Int) < (sn.size : Int)) = true := by simp; omega
          have t3 : (4000 : Int) < (sn.size : Int) := by omega
          go_wp2
          go_ret
          exact ⟨rfl, HEN.out _ (below_alloc _ _)⟩
      · have he : ¬ ef = 0 := by simpa using t1
        have hn := HRI.out.2 he
        have e0 : n.vars.length = 0 := by rw [hn]; rfl
        have e1 : n.cons.length = 0 := by rw [hn]; rfl
        have HEN : Hid (∀ Y, Below x1.heap.size x1 Y → Below w.heap.size w Y) := fun Y hY => HB3.out.trans (hY.mono HB3.out.size)
        clear hn he
        go_wp2
        go_ret
        exact ⟨rfl, HEN.out _ (below_alloc _ _)⟩
end Go.Proofs.YtdjbejlbmaiocabGreatDoor
/-
  WALK: TextParses.
-/
namespace Go.Proofs.YtdjbejlbmaiocabGreatDoor
open Go.RowKit

set_option maxHeartbeats 1600000 in
set_option maxRecDepth 100000 in
theorem parses_any (N : Nat) (s : ByteArray) (w : World) (hs : s.size ≤ maxLen) (ht : TabN N w) (hN : N ≤ w.heap.size) :
    Calls Tryz.prog 3 #[.string s] w fun e w' => e = .returned (.bool true) ∧ Below w.heap.size w w' := by
  have HT : Hid (∀ Y, Below w.heap.size w Y → TabN N Y ∧ N ≤ Y.heap.size) := fun Y hY => ⟨ht.fr (X := fun _ => False) (Fr.below hY) (fun _ h => h.elim), Nat.le_trans hN hY.size⟩
  have HSZ : Hid (s.size ≤ maxLen) := hs
  obtain ⟨m, x, er, hpa⟩ : ∃ m x er, parseA s = (m, x, er) := ⟨_, _, _, rfl⟩
  have HPA : Hid (parseA s = (m, x, er)) := hpa
  have HPR : Hid (parseR s = (m, x, er)) := (parseR_same s).trans hpa
  clear hpa hs ht
  go_enter Tryz.func3, Tryz.ntmps3
  go_wp2_with fail
  refine (parse_any s HSZ.out w).mono ?_
  rw [HPA.out]
  simp only
  rintro e w1 ⟨vs, cs, rfl, hm1, hb1⟩
  have HB1 : Hid (Below w.heap.size w w1) := hb1
  have HM1 : Hid (MArg w1 vs cs m) := hm1.marg
  have hma := hm1.marg
  obtain ⟨⟨a1, c1, rfl, _, _⟩, ⟨a2, c2, rfl, _, _⟩⟩ := hma
  clear hb1 hm1
  unfold modV
  go_wp2_with fail
  obtain ⟨X, hX⟩ : ∃ X, X = w1.alloc (.cells #[.slice a1 m.vars.length c1, .slice a2 m.cons.length c2, .int .i64 m.goal, .int .i64 m.var] 25) := ⟨_, rfl⟩
  have HBX : Hid (Below w1.heap.size w1 X) := by show Below _ _ _; rw [hX]; exact below_alloc _ _
  have HQX : Hid (X.heap[w1.heap.size]? = some (.cells #[.slice a1 m.vars.length c1, .slice a2 m.cons.length c2, .int .i64 m.goal, .int .i64 m.var] 25)) := by rw [hX]; exact heap_alloc_new _ _
  rw [← hX]
  clear hX
  refine (rparse_any s HSZ.out X).mono ?_
  rw [HPR.out]
  simp only
  rintro e w2 ⟨us, ts, rfl, hm2, hb2⟩
  have HB2 : Hid (Below w1.heap.size w1 w2) := HBX.out.trans (hb2.mono HBX.out.size)
  have HM2 : Hid (MArg w2 us ts m) := hm2.marg
  have HQ2 : Hid (w2.heap[w1.heap.size]? = some (.cells #[.slice a1 m.vars.length c1, .slice a2 m.cons.length c2, .int .i64 m.goal, .int .i64 m.var] 25)) := (hb2.block _ (Array.getElem?_eq_some_iff.1 HQX.out).1).trans HQX.out
  have hma := hm2.marg
  obtain ⟨⟨b1, d1, rfl, _, _⟩, ⟨b2, d2, rfl, _, _⟩⟩ := hma
  clear hb2 hm2 HBX HQX
  unfold modV
  go_wp2_with fail
  obtain ⟨X2, hX2⟩ : ∃ X2, X2 = w2.alloc (.cells #[.slice b1 m.vars.length d1, .slice b2 m.cons.length d2, .int .i64 m.goal, .int .i64 m.var] 25) := ⟨_, rfl⟩
  have HBY : Hid (Below w2.heap.size w2 X2) := by show Below _ _ _; rw [hX2]; exact below_alloc _ _
  have HQY : Hid (X2.heap[w2.heap.size]? = some (.cells #[.slice b1 m.vars.length d1, .slice b2 m.cons.length d2, .int .i64 m.goal, .int .i64 m.var] 25)) := by rw [hX2]; exact heap_alloc_new _ _
  have HBW : Hid (Below w.heap.size w X2) := (HB1.out.trans (HB2.out.mono HB1.out.size)).trans (HBY.out.mono (HB1.out.trans (HB2.out.mono HB1.out.size)).size)
  rw [← hX2]
  clear hX2
  refine (begun_text N X2 (HT.out X2 HBW.out).1 (HT.out X2 HBW.out).2).mono ?_
  rintro e w3 ⟨rfl, hb3⟩
  have HB3 : Hid (Below w2.heap.size w2 w3) := HBY.out.trans (hb3.mono HBY.out.size)
  have HBZ : Hid (Below w.heap.size w w3) := HBW.out.trans (hb3.mono HBW.out.size)
  have HQ3 : Hid (w3.heap[w2.heap.size]? = some (.cells #[.slice b1 m.vars.length d1, .slice b2 m.cons.length d2, .int .i64 m.goal, .int .i64 m.var] 25)) := (hb3.block _ (Array.getElem?_eq_some_iff.1 HQY.out).1).trans HQY.out
  have HQ4 : Hid (w3.heap[w1.heap.size]? = some (.cells #[.slice a1 m.vars.length c1, .slice a2 m.cons.length c2, .int .i64 m.goal, .int .i64 m.var] 25)) := (HB3.out.block _ (Array.getElem?_eq_some_iff.1 HQ2.out).1).trans HQ2.out
  have HMA : Hid (MArg w3 (.slice a1 m.vars.length c1) (.slice a2 m.cons.length c2) m) := MArg.below (HB2.out.trans (HB3.out.mono HB2.out.size)) HM1.out
  have HMB : Hid (MArg w3 (.slice b1 m.vars.length d1) (.slice b2 m.cons.length d2) m) := MArg.below HB3.out HM2.out
  have p0 := blk9 HQ3.out 0 _ rfl
  have p1 := blk9 HQ3.out 1 _ rfl
  have p2 := blk9 HQ3.out 2 _ rfl
  have p3 := blk9 HQ3.out 3 _ rfl
  have q0 := blk9 HQ4.out 0 _ rfl
  have q1 := blk9 HQ4.out 1 _ rfl
  have q2 := blk9 HQ4.out 2 _ rfl
  have q3 := blk9 HQ4.out 3 _ rfl
  clear hb3
  go_wp2_with fail
  refine (show Calls Tryz.prog 9 #[modV (.slice a1 m.vars.length c1) (.slice a2 m.cons.length c2) m, modV (.slice b1 m.vars.length d1) (.slice b2 m.cons.length d2) m] _ _ from samemodel_eq m _ _ _ _ _ HMA.out HMB.out).mono ?_
  rintro e w4 ⟨rfl, hb4⟩
  have HBV : Hid (Below w.heap.size w w4) := HBZ.out.trans (hb4.mono HBZ.out.size)
  clear hb4
  go_wp2
  go_ret
  exact ⟨rfl, HBV.out⟩
end Go.Proofs.YtdjbejlbmaiocabGreatDoor
