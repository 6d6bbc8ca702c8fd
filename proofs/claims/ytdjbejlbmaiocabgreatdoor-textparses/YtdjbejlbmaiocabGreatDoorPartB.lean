/-
  PART 2 of what the proof leans on (ModA, ModB, ModC, ModD, ModE, ModF, TxtB).
-/
import Derived.Test.YtdjbejlbmaiocabGreatDoorPartA
import Derived.Deep.QuietTactic
import Derived.BigQuiet
/-
  WALKS: package model: names, variables.
-/
namespace Go.Proofs.YtdjbejlbmaiocabGreatDoor
open Go.RowKit

set_option maxHeartbeats 400000 in
theorem within_any (n most : Int) (h0 : 0 ≤ most) (h1 : most ≤ 1000) (w : World) :
    Calls Tryz.prog 78 #[.int .i64 n, .int .i64 most] w fun e w' => e = .returned (.bool (inB n most)) ∧ w' = w := by
  unfold inB
  go_enter Tryz.func78, Tryz.ntmps78
  go_wp2
  · go_ret; exact ⟨ret_bool (by simp [*]), rfl⟩
  · go_ret; exact ⟨ret_bool (by rw [decide_eq_false (p := -most ≤ n) (by omega)]; rfl), rfl⟩

set_option maxHeartbeats 1000000 in
set_option maxRecDepth 100000 in
theorem word_is (s : ByteArray) (w : World) :
    Calls Tryz.prog 105 #[.string s] w fun e w' => e = .returned (.bool (isWordB s)) ∧ w' = w := by
  go_enter Tryz.func105, Tryz.ntmps105
  go_wp2
  all_goals (go_ret; refine ⟨ret_bool ?_, rfl⟩; simp_all [isWordB])

set_option maxHeartbeats 1000000 in
set_option maxRecDepth 100000 in
theorem name_is (s : ByteArray) (hs : s.size ≤ maxLen) (w : World) :
    Calls Tryz.prog 75 #[.string s] w fun e w' => e = .returned (.bool (isNameB s)) ∧ Below w.heap.size w w' := by
  rcases hR : scanOf s with ⟨ts, pl, er⟩
  have hA : isNameB s = (((er == 0) && ((ts.length == 1) && ((ts.headD ⟨0, 0, ByteArray.empty⟩).kind == 1 && (ts.headD ⟨0, 0, ByteArray.empty⟩).text.toList == s.toList))) && !isWordB s) := by
    unfold isNameB; rw [← alone_iff ⟨1, 0, s⟩]; unfold aloneB; rw [hR]
  have HR : Hid (scanOf s = (ts, pl, er)) := hR
  have HS : Hid (s.size ≤ maxLen) := hs
  clear hR hs
  by_cases her : er = 0
  · subst her
    by_cases hl : ts.length = 1
    · obtain ⟨u, rfl⟩ : ∃ u, ts = [u] := List.length_eq_one_iff.1 hl
      clear hl
      cases hkd : (u.kind == 1)
      · have hA2 : isNameB s = false := by rw [hA]; simp only [List.headD_cons]; rw [hkd]; rfl
        rw [hA2]; clear hA hA2
        go_enter Tryz.func75, Tryz.ntmps75
        go_wp2_with fail
        refine (scan_all s HS.out _).mono ?_
        rintro e w1 ⟨v, rfl, hown, hb1⟩
        rw [HR.out] at hown ⊢
        obtain ⟨g, cap, rfl, _, _, hrow⟩ := own_row hown (by simp)
        obtain ⟨c0, c1, c2⟩ := hrow 0 u rfl
        clear hrow hown
        simp only [Nat.zero_mul, Nat.add_zero, Nat.zero_add] at c0 c1 c2
        go_wp2
        go_ret
        exact ⟨rfl, hb1⟩
      · cases htx : (u.text.toList == s.toList)
        · have hA2 : isNameB s = false := by rw [hA]; simp only [List.headD_cons]; rw [hkd, htx]; rfl
          rw [hA2]; clear hA hA2
          go_enter Tryz.func75, Tryz.ntmps75
          go_wp2_with fail
          refine (scan_all s HS.out _).mono ?_
          rintro e w1 ⟨v, rfl, hown, hb1⟩
          rw [HR.out] at hown ⊢
          obtain ⟨g, cap, rfl, _, _, hrow⟩ := own_row hown (by simp)
          obtain ⟨c0, c1, c2⟩ := hrow 0 u rfl
          clear hrow hown
          simp only [Nat.zero_mul, Nat.add_zero, Nat.zero_add] at c0 c1 c2
          go_wp2
          go_ret
          exact ⟨rfl, hb1⟩
        · have hA2 : isNameB s = !isWordB s := by rw [hA]; simp only [List.headD_cons]; rw [hkd, htx]; rfl
          rw [hA2]; clear hA hA2
          go_enter Tryz.func75, Tryz.ntmps75
          go_wp2_with fail
          refine (scan_all s HS.out _).mono ?_
          rintro e w1 ⟨v, rfl, hown, hb1⟩
          rw [HR.out] at hown ⊢
          obtain ⟨g, cap, rfl, _, _, hrow⟩ := own_row hown (by simp)
          obtain ⟨c0, c1, c2⟩ := hrow 0 u rfl
          clear hrow hown
          simp only [Nat.zero_mul, Nat.add_zero, Nat.zero_add] at c0 c1 c2
          go_wp2_with fail
          refine (word_is _ _).mono ?_
          rintro e w1 ⟨rfl, rfl⟩
          go_wp2
          go_ret
          exact ⟨rfl, hb1⟩
    · have hl2 : ((ts.length : Int) == 1) = false := by simpa using (show ¬ (ts.length : Int) = 1 by omega)
      have hA2 : isNameB s = false := by rw [hA]; rw [show (ts.length == 1) = false by simpa using hl]; rfl
      rw [hA2]; clear hA hA2 hl
      go_enter Tryz.func75, Tryz.ntmps75
      go_wp2_with fail
      refine (scan_all s HS.out _).mono ?_
      rintro e w1 ⟨v, rfl, hown, hb1⟩
      rw [HR.out] at hown ⊢
      obtain ⟨ad, cap, rfl⟩ := own_form hown
      clear hown
      go_wp2
      go_ret
      exact ⟨rfl, hb1⟩
  · have her2 : (er == 0) = false := by simpa using her
    have hA2 : isNameB s = false := by rw [hA, her2]; rfl
    rw [hA2]; clear hA hA2 her
    go_enter Tryz.func75, Tryz.ntmps75
    go_wp2_with fail
    refine (scan_all s HS.out _).mono ?_
    rintro e w1 ⟨v, rfl, hown, hb1⟩
    rw [HR.out] at hown ⊢
    obtain ⟨ad, cap, rfl⟩ := own_form hown
    clear hown
    go_wp2
    go_ret
    exact ⟨rfl, hb1⟩

set_option maxHeartbeats 400000 in
theorem other_is (b : Nat) (u : MVar) (nm : ByteArray) (w : World) (hc : w.cell? ⟨b, 0, none⟩ = some (.string nm)) :
    Calls Tryz.prog 77 #[.agg #[.string u.name, .int .i64 u.lo, .int .i64 u.hi], .pointer (some ⟨b, 0, none⟩)] w fun e w' => e = .returned (.bool (u.name.toList == nm.toList)) ∧ Below w.heap.size w w' := by
  have hb : b < w.heap.size := World.block_lt_of_cell? w _ hc
  go_enter Tryz.func77, Tryz.ntmps77
  go_wp2
  go_ret
  exact ⟨rfl, below_alloc _ _⟩

def twiceB (l : List MVar) (nm : ByteArray) : Bool := l.any fun u => u.name.toList == nm.toList
theorem twice_hit (l : List MVar) (nm : ByteArray) (m : Nat) (t : MVar) (ht : l[m]? = some t) (h : (t.name.toList == nm.toList) = true) : twiceB l nm = true := by
  unfold twiceB; exact List.any_eq_true.2 ⟨t, List.mem_of_getElem? ht, h⟩
theorem twice_miss (l : List MVar) (nm : ByteArray) (m : Nat) (t : MVar) (ht : l[m]? = some t) (h0 : twiceB (l.take m) nm = false) (h : (t.name.toList == nm.toList) = false) : twiceB (l.take (m + 1)) nm = false := by
  unfold twiceB at *; rw [List.take_add_one, ht, List.any_append, h0]; simp [h]

set_option maxHeartbeats 800000 in
set_option maxRecDepth 100000 in
theorem index_vars (l : List MVar) (v : Value) (b : Nat) (nm : ByteArray) (w : World) (hv : VArg w v l) (hc : w.cell? ⟨b, 0, none⟩ = some (.string nm)) :
    Calls Tryz.prog 106 #[v, .func (.func 77) #[] #[.pointer (some ⟨b, 0, none⟩)]] w fun e w' => ∃ z : Int, e = .returned (.int .i64 z) ∧ decide (0 ≤ z) = twiceB l nm ∧ Below w.heap.size w w' := by
  obtain ⟨a, c, rfl, hm, hr⟩ := hv
  have HV : Hid (∀ (i : Nat) (t : MVar), l[i]? = some t → t.name.size ≤ maxLen ∧ ∃ b off, a = some ⟨b, off, none⟩ ∧ b < w.heap.size ∧
    w.cell? ⟨b, off + i * 3, none⟩ = some (.string t.name) ∧ w.cell? ⟨b, off + i * 3 + 1, none⟩ = some (.int .i64 t.lo) ∧ w.cell? ⟨b, off + i * 3 + 2, none⟩ = some (.int .i64 t.hi)) := hr
  have hbs : b < w.heap.size := World.block_lt_of_cell? w _ hc
  have HC : Hid (w.cell? ⟨b, 0, none⟩ = some (.string nm)) := hc
  obtain ⟨tw, htw⟩ : ∃ tw, twiceB l nm = tw := ⟨_, rfl⟩
  rw [htw]
  have HTW : Hid (twiceB l nm = tw) := htw
  clear hr hc htw
  unfold maxLen at hm
  obtain ⟨hm1, hm⟩ := hm
  go_enter Tryz.func106, Tryz.ntmps106
  go_wp2_with fail
  go_loopw [8] (fun i wr => ∃ m : Nat, m ≤ l.length ∧ i = .int .i64 m ∧ Hid (twiceB (l.take m) nm = false) ∧ Below w.heap.size w wr) (fun i _ => l.length - (intOf i).toNat)
  case atStart => exact ⟨0, by omega, rfl, rfl, Below.refl _ _⟩
  case round =>
    obtain ⟨m, hml, rfl, hno, hbw⟩ := hrel
    by_cases hlt : m < l.length
    · obtain ⟨t, ht⟩ : ∃ t, l[m]? = some t := ⟨l[m], by simp [hlt]⟩
      obtain ⟨_, b2, off, ha, hlt2, c0, c1, c2⟩ := HV.out m t ht
      have hc0 := (hbw.cell (p := ⟨b2, off + m * 3, none⟩) hlt2).trans c0
      have hc1 := (hbw.cell (p := ⟨b2, off + m * 3 + 1, none⟩) hlt2).trans c1
      have hc2 := (hbw.cell (p := ⟨b2, off + m * 3 + 2, none⟩) hlt2).trans c2
      have hcb := (hbw.cell (p := ⟨b, 0, none⟩) hbs).trans HC.out
      have HT : Hid (l[m]? = some t) := ht
      subst ha
      clear c0 c1 c2 ht
      cases hq : (t.name.toList == nm.toList)
      · have HNO : Hid (twiceB (l.take (m + 1)) nm = false) := twice_miss l nm m t HT.out hno.out hq
        go_wp2_with fail
        refine (other_is b t nm _ hcb).mono ?_
        rintro e w1 ⟨rfl, hb1⟩
        rw [hq]
        clear hq
        go_wp2
        go_roundw
        case rel => exact ⟨m + 1, by omega, by go_num, HNO, hbw.trans (hb1.mono hbw.size)⟩
        case measure => simp [intOf]; omega
      · have HY : Hid (tw = true) := by rw [← HTW.out]; exact twice_hit l nm m t HT.out hq
        go_wp2_with fail
        refine (other_is b t nm _ hcb).mono ?_
        rintro e w1 ⟨rfl, hb1⟩
        rw [hq]
        clear hq
        go_wp2
        go_ret
        exact ⟨_, rfl, by rw [HY.out]; simp, hbw.trans (hb1.mono hbw.size)⟩
    · have HN : Hid (tw = false) := by
        have hmn : m = l.length := by omega
        have := hno.out; rw [hmn, List.take_length, HTW.out] at this; exact this
      go_wp2
      go_ret
      exact ⟨_, rfl, by rw [HN.out]; rfl, hbw⟩

set_option maxHeartbeats 400000 in
theorem contains_vars (l : List MVar) (v : Value) (b : Nat) (nm : ByteArray) (w : World) (hv : VArg w v l) (hc : w.cell? ⟨b, 0, none⟩ = some (.string nm)) :
    Calls Tryz.prog 76 #[v, .func (.func 77) #[] #[.pointer (some ⟨b, 0, none⟩)]] w fun e w' => e = .returned (.bool (twiceB l nm)) ∧ Below w.heap.size w w' := by
  go_enter Tryz.func76, Tryz.ntmps76
  go_wp2_with fail
  refine (index_vars l v b nm _ hv hc).mono ?_
  rintro e w1 ⟨z, rfl, hz, hb1⟩
  have HZ : Hid (decide (0 ≤ z) = twiceB l nm) := hz
  clear hz
  go_wp2
  go_ret
  exact ⟨ret_bool HZ.out, hb1⟩

theorem VArg.take {w : World} {a : Option Addr} {n c : Nat} {vs : List MVar} (h : VArg w (.slice a n c) vs) (k : Nat) (hk : k ≤ vs.length) : VArg w (.slice a k c) (vs.take k) := by
  obtain ⟨a', c', hv, hm, hr⟩ := h
  cases hv
  refine ⟨a, c, by rw [List.length_take, Nat.min_eq_left hk], ⟨by rw [List.length_take]; omega, hm.2⟩, fun i t ht => ?_⟩
  rw [List.getElem?_take] at ht
  split at ht
  · exact hr i t ht
  · cases ht

set_option maxHeartbeats 1600000 in
set_option maxRecDepth 100000 in
theorem var_check (vs : List MVar) (v : Value) (k : Nat) (t : MVar) (w : World) (hv : VArg w v vs) (ht : vs[k]? = some t) :
    Calls Tryz.prog 42 #[v, .int .i64 k] w fun e w' => e = .returned (.int .i64 (varE (vs.take k) t)) ∧ Below w.heap.size w w' := by
  have hv0 := hv
  obtain ⟨a, c, rfl, hm, hr⟩ := hv
  have hkl : k < vs.length := (List.getElem?_eq_some_iff.1 ht).1
  have HTAKE : Hid (VArg w (.slice a k c) (vs.take k)) := VArg.take hv0 k (by omega)
  obtain ⟨hts, b, off, rfl, hlt, c0, c1, c2⟩ := hr k t ht
  have HTS : Hid (t.name.size ≤ maxLen) := hts
  obtain ⟨R, hR⟩ : ∃ R, varE (vs.take k) t = R := ⟨_, rfl⟩
  rw [hR]
  have hE : R = (if isNameB t.name then (if twiceB (vs.take k) t.name then 6 else if inB t.lo 50 && (inB t.hi 50 && !decide (t.hi < t.lo)) then (if 6 < t.hi - t.lo + 1 then 2 else 0) else 3) else 1) := by rw [← hR]; rfl
  clear hr hv0 hts ht hR
  unfold maxLen at hm
  obtain ⟨hm1, hm⟩ := hm
  cases hn : isNameB t.name
  · have HE : Hid (R = 1) := by rw [hE, hn]; rfl
    have HN : Hid (isNameB t.name = false) := hn
    clear hn hE
    go_enter Tryz.func42, Tryz.ntmps42
    go_wp2_with fail
    refine (name_is _ HTS.out _).mono ?_
    rintro e w1 ⟨rfl, hb1⟩
    rw [HN.out]
    have hB1 : Below w.heap.size w w1 := (below_alloc _ _).trans (hb1.mono (by simp))
    have d0 : w1.cell? ⟨w.heap.size, 0, none⟩ = some (.string t.name) := (hb1.cell (by simp)).trans (by simp)
    have d1 : w1.cell? ⟨w.heap.size, 1, none⟩ = some (.int .i64 t.lo) := (hb1.cell (by simp)).trans (by simp)
    have d2 : w1.cell? ⟨w.heap.size, 2, none⟩ = some (.int .i64 t.hi) := (hb1.cell (by simp)).trans (by simp)
    have hs1 : w.heap.size + 1 ≤ w1.heap.size := by simpa using hb1.size
    clear hb1
    go_wp2
    go_ret
    exact ⟨ret_int HE.out.symm, hB1⟩
  · have HN : Hid (isNameB t.name = true) := hn
    cases htw : twiceB (vs.take k) t.name
    · have HTW : Hid (twiceB (vs.take k) t.name = false) := htw
      cases hlo : inB t.lo 50
      · have HE : Hid (R = 3) := by rw [hE, hn, htw, hlo]; rfl
        have HLO : Hid (inB t.lo 50 = false) := hlo
        clear hn htw hlo hE
        go_enter Tryz.func42, Tryz.ntmps42
        go_wp2_with fail
        refine (name_is _ HTS.out _).mono ?_
        rintro e w1 ⟨rfl, hb1⟩
        rw [HN.out]
        have hB1 : Below w.heap.size w w1 := (below_alloc _ _).trans (hb1.mono (by simp))
        have d0 : w1.cell? ⟨w.heap.size, 0, none⟩ = some (.string t.name) := (hb1.cell (by simp)).trans (by simp)
        have d1 : w1.cell? ⟨w.heap.size, 1, none⟩ = some (.int .i64 t.lo) := (hb1.cell (by simp)).trans (by simp)
        have d2 : w1.cell? ⟨w.heap.size, 2, none⟩ = some (.int .i64 t.hi) := (hb1.cell (by simp)).trans (by simp)
        have hs1 : w.heap.size + 1 ≤ w1.heap.size := by simpa using hb1.size
        clear hb1
        go_wp2_with fail
        refine (contains_vars (vs.take k) _ w.heap.size t.name _ (VArg.below hB1 HTAKE.out) d0).mono ?_
        rintro e w2 ⟨rfl, hb2⟩
        rw [HTW.out]
        have hB2 : Below w.heap.size w w2 := hB1.trans (hb2.mono (by omega))
        have e1 : w2.cell? ⟨w.heap.size, 1, none⟩ = some (.int .i64 t.lo) := (hb2.cell (p := ⟨w.heap.size, 1, none⟩) (by simp only; omega)).trans d1
        have e2 : w2.cell? ⟨w.heap.size, 2, none⟩ = some (.int .i64 t.hi) := (hb2.cell (p := ⟨w.heap.size, 2, none⟩) (by simp only; omega)).trans d2
        clear hb2 d0 d1 d2
        go_wp2_with fail
        refine (within_any _ 50 (by omega) (by omega) _).mono ?_
        rintro e w2 ⟨rfl, rfl⟩
        rw [HLO.out]
        go_wp2
        go_ret
        exact ⟨ret_int HE.out.symm, hB2⟩
      · have HLO : Hid (inB t.lo 50 = true) := hlo
        have hl1 : -50 ≤ t.lo ∧ t.lo ≤ 50 := by simpa [inB] using hlo
        cases hhi : inB t.hi 50
        · have HE : Hid (R = 3) := by rw [hE, hn, htw, hlo, hhi]; rfl
          have HHI : Hid (inB t.hi 50 = false) := hhi
          clear hn htw hlo hhi hE
          go_enter Tryz.func42, Tryz.ntmps42
          go_wp2_with fail
          refine (name_is _ HTS.out _).mono ?_
          rintro e w1 ⟨rfl, hb1⟩
          rw [HN.out]
          have hB1 : Below w.heap.size w w1 := (below_alloc _ _).trans (hb1.mono (by simp))
          have d0 : w1.cell? ⟨w.heap.size, 0, none⟩ = some (.string t.name) := (hb1.cell (by simp)).trans (by simp)
          have d1 : w1.cell? ⟨w.heap.size, 1, none⟩ = some (.int .i64 t.lo) := (hb1.cell (by simp)).trans (by simp)
          have d2 : w1.cell? ⟨w.heap.size, 2, none⟩ = some (.int .i64 t.hi) := (hb1.cell (by simp)).trans (by simp)
          have hs1 : w.heap.size + 1 ≤ w1.heap.size := by simpa using hb1.size
          clear hb1
          go_wp2_with fail
          refine (contains_vars (vs.take k) _ w.heap.size t.name _ (VArg.below hB1 HTAKE.out) d0).mono ?_
          rintro e w2 ⟨rfl, hb2⟩
          rw [HTW.out]
          have hB2 : Below w.heap.size w w2 := hB1.trans (hb2.mono (by omega))
          have e1 : w2.cell? ⟨w.heap.size, 1, none⟩ = some (.int .i64 t.lo) := (hb2.cell (p := ⟨w.heap.size, 1, none⟩) (by simp only; omega)).trans d1
          have e2 : w2.cell? ⟨w.heap.size, 2, none⟩ = some (.int .i64 t.hi) := (hb2.cell (p := ⟨w.heap.size, 2, none⟩) (by simp only; omega)).trans d2
          clear hb2 d0 d1 d2
          go_wp2_with fail
          refine (within_any _ 50 (by omega) (by omega) _).mono ?_
          rintro e w2 ⟨rfl, rfl⟩
          rw [HLO.out]
          go_wp2_with fail
          refine (within_any _ 50 (by omega) (by omega) _).mono ?_
          rintro e w2 ⟨rfl, rfl⟩
          rw [HHI.out]
          go_wp2
          go_ret
          exact ⟨ret_int HE.out.symm, hB2⟩
        · have HHI : Hid (inB t.hi 50 = true) := hhi
          have hh1 : -50 ≤ t.hi ∧ t.hi ≤ 50 := by simpa [inB] using hhi
          by_cases hlh : t.hi < t.lo
          · have HE : Hid (R = 3) := by rw [hE, hn, htw, hlo, hhi, decide_eq_true hlh]; rfl
            clear hn htw hlo hhi hE
            go_enter Tryz.func42, Tryz.ntmps42
            go_wp2_with fail
            refine (name_is _ HTS.out _).mono ?_
            rintro e w1 ⟨rfl, hb1⟩
            rw [HN.out]
            have hB1 : Below w.heap.size w w1 := (below_alloc _ _).trans (hb1.mono (by simp))
            have d0 : w1.cell? ⟨w.heap.size, 0, none⟩ = some (.string t.name) := (hb1.cell (by simp)).trans (by simp)
            have d1 : w1.cell? ⟨w.heap.size, 1, none⟩ = some (.int .i64 t.lo) := (hb1.cell (by simp)).trans (by simp)
            have d2 : w1.cell? ⟨w.heap.size, 2, none⟩ = some (.int .i64 t.hi) := (hb1.cell (by simp)).trans (by simp)
            have hs1 : w.heap.size + 1 ≤ w1.heap.size := by simpa using hb1.size
            clear hb1
            go_wp2_with fail
            refine (contains_vars (vs.take k) _ w.heap.size t.name _ (VArg.below hB1 HTAKE.out) d0).mono ?_
            rintro e w2 ⟨rfl, hb2⟩
            rw [HTW.out]
            have hB2 : Below w.heap.size w w2 := hB1.trans (hb2.mono (by omega))
            have e1 : w2.cell? ⟨w.heap.size, 1, none⟩ = some (.int .i64 t.lo) := (hb2.cell (p := ⟨w.heap.size, 1, none⟩) (by simp only; omega)).trans d1
            have e2 : w2.cell? ⟨w.heap.size, 2, none⟩ = some (.int .i64 t.hi) := (hb2.cell (p := ⟨w.heap.size, 2, none⟩) (by simp only; omega)).trans d2
            clear hb2 d0 d1 d2
            go_wp2_with fail
            refine (within_any _ 50 (by omega) (by omega) _).mono ?_
            rintro e w2 ⟨rfl, rfl⟩
            rw [HLO.out]
            go_wp2_with fail
            refine (within_any _ 50 (by omega) (by omega) _).mono ?_
            rintro e w2 ⟨rfl, rfl⟩
            rw [HHI.out]
            go_wp2
            go_ret
            exact ⟨ret_int HE.out.symm, hB2⟩
          · by_cases h6 : 6 < t.hi - t.lo + 1
            · have HE : Hid (R = 2) := by rw [hE, hn, htw, hlo, hhi, decide_eq_false hlh, if_pos h6]; rfl
              clear hn htw hlo hhi hE
              go_enter Tryz.func42, Tryz.ntmps42
              go_wp2_with fail
              refine (name_is _ HTS.out _).mono ?_
              rintro e w1 ⟨rfl, hb1⟩
              rw [HN.out]
              have hB1 : Below w.heap.size w w1 := (below_alloc _ _).trans (hb1.mono (by simp))
              have d0 : w1.cell? ⟨w.heap.size, 0, none⟩ = some (.string t.name) := (hb1.cell (by simp)).trans (by simp)
              have d1 : w1.cell? ⟨w.heap.size, 1, none⟩ = some (.int .i64 t.lo) := (hb1.cell (by simp)).trans (by simp)
              have d2 : w1.cell? ⟨w.heap.size, 2, none⟩ = some (.int .i64 t.hi) := (hb1.cell (by simp)).trans (by simp)
              have hs1 : w.heap.size + 1 ≤ w1.heap.size := by simpa using hb1.size
              clear hb1
              go_wp2_with fail
              refine (contains_vars (vs.take k) _ w.heap.size t.name _ (VArg.below hB1 HTAKE.out) d0).mono ?_
              rintro e w2 ⟨rfl, hb2⟩
              rw [HTW.out]
              have hB2 : Below w.heap.size w w2 := hB1.trans (hb2.mono (by omega))
              have e1 : w2.cell? ⟨w.heap.size, 1, none⟩ = some (.int .i64 t.lo) := (hb2.cell (p := ⟨w.heap.size, 1, none⟩) (by simp only; omega)).trans d1
              have e2 : w2.cell? ⟨w.heap.size, 2, none⟩ = some (.int .i64 t.hi) := (hb2.cell (p := ⟨w.heap.size, 2, none⟩) (by simp only; omega)).trans d2
              clear hb2 d0 d1 d2
              go_wp2_with fail
              refine (within_any _ 50 (by omega) (by omega) _).mono ?_
              rintro e w2 ⟨rfl, rfl⟩
              rw [HLO.out]
              go_wp2_with fail
              refine (within_any _ 50 (by omega) (by omega) _).mono ?_
              rintro e w2 ⟨rfl, rfl⟩
              rw [HHI.out]
              go_wp2
              go_ret
              exact ⟨ret_int HE.out.symm, hB2⟩
            · have HE : Hid (R = 0) := by rw [hE, hn, htw, hlo, hhi, decide_eq_false hlh, if_neg h6]; rfl
              clear hn htw hlo hhi hE
              go_enter Tryz.func42, Tryz.ntmps42
              go_wp2_with fail
              refine (name_is _ HTS.out _).mono ?_
              rintro e w1 ⟨rfl, hb1⟩
              rw [HN.out]
              have hB1 : Below w.heap.size w w1 := (below_alloc _ _).trans (hb1.mono (by simp))
              have d0 : w1.cell? ⟨w.heap.size, 0, none⟩ = some (.string t.name) := (hb1.cell (by simp)).trans (by simp)
              have d1 : w1.cell? ⟨w.heap.size, 1, none⟩ = some (.int .i64 t.lo) := (hb1.cell (by simp)).trans (by simp)
              have d2 : w1.cell? ⟨w.heap.size, 2, none⟩ = some (.int .i64 t.hi) := (hb1.cell (by simp)).trans (by simp)
              have hs1 : w.heap.size + 1 ≤ w1.heap.size := by simpa using hb1.size
              clear hb1
              go_wp2_with fail
              refine (contains_vars (vs.take k) _ w.heap.size t.name _ (VArg.below hB1 HTAKE.out) d0).mono ?_
              rintro e w2 ⟨rfl, hb2⟩
              rw [HTW.out]
              have hB2 : Below w.heap.size w w2 := hB1.trans (hb2.mono (by omega))
              have e1 : w2.cell? ⟨w.heap.size, 1, none⟩ = some (.int .i64 t.lo) := (hb2.cell (p := ⟨w.heap.size, 1, none⟩) (by simp only; omega)).trans d1
              have e2 : w2.cell? ⟨w.heap.size, 2, none⟩ = some (.int .i64 t.hi) := (hb2.cell (p := ⟨w.heap.size, 2, none⟩) (by simp only; omega)).trans d2
              clear hb2 d0 d1 d2
              go_wp2_with fail
              refine (within_any _ 50 (by omega) (by omega) _).mono ?_
              rintro e w2 ⟨rfl, rfl⟩
              rw [HLO.out]
              go_wp2_with fail
              refine (within_any _ 50 (by omega) (by omega) _).mono ?_
              rintro e w2 ⟨rfl, rfl⟩
              rw [HHI.out]
              go_wp2
              go_ret
              exact ⟨ret_int HE.out.symm, hB2⟩
    · have HE : Hid (R = 6) := by rw [hE, hn, htw]; rfl
      have HTW : Hid (twiceB (vs.take k) t.name = true) := htw
      clear hn htw hE
      go_enter Tryz.func42, Tryz.ntmps42
      go_wp2_with fail
      refine (name_is _ HTS.out _).mono ?_
      rintro e w1 ⟨rfl, hb1⟩
      rw [HN.out]
      have hB1 : Below w.heap.size w w1 := (below_alloc _ _).trans (hb1.mono (by simp))
      have d0 : w1.cell? ⟨w.heap.size, 0, none⟩ = some (.string t.name) := (hb1.cell (by simp)).trans (by simp)
      have d1 : w1.cell? ⟨w.heap.size, 1, none⟩ = some (.int .i64 t.lo) := (hb1.cell (by simp)).trans (by simp)
      have d2 : w1.cell? ⟨w.heap.size, 2, none⟩ = some (.int .i64 t.hi) := (hb1.cell (by simp)).trans (by simp)
      have hs1 : w.heap.size + 1 ≤ w1.heap.size := by simpa using hb1.size
      clear hb1
      go_wp2_with fail
      refine (contains_vars (vs.take k) _ w.heap.size t.name _ (VArg.below hB1 HTAKE.out) d0).mono ?_
      rintro e w2 ⟨rfl, hb2⟩
      rw [HTW.out]
      have hB2 : Below w.heap.size w w2 := hB1.trans (hb2.mono (by omega))
      have e1 : w2.cell? ⟨w.heap.size, 1, none⟩ = some (.int .i64 t.lo) := (hb2.cell (p := ⟨w.heap.size, 1, none⟩) (by simp only; omega)).trans d1
      have e2 : w2.cell? ⟨w.heap.size, 2, none⟩ = some (.int .i64 t.hi) := (hb2.cell (p := ⟨w.heap.size, 2, none⟩) (by simp only; omega)).trans d2
      clear hb2 d0 d1 d2
      go_wp2
      go_ret
      exact ⟨ret_int HE.out.symm, hB2⟩
end Go.Proofs.YtdjbejlbmaiocabGreatDoor
/-
  WALKS: package model: constraints, their parts.
-/
namespace Go.Proofs.YtdjbejlbmaiocabGreatDoor
open Go.RowKit

theorem all_hit {α : Type} (p : α → Bool) (l : List α) (m : Nat) (t : α) (ht : l[m]? = some t) (h : p t = false) : l.all p = false := by
  cases ha : l.all p
  · rfl
  · rw [List.all_eq_true.1 ha t (List.mem_of_getElem? ht)] at h; cases h
theorem all_next {α : Type} (p : α → Bool) (l : List α) (m : Nat) (t : α) (ht : l[m]? = some t) (h0 : (l.take m).all p = true) (h : p t = true) : (l.take (m + 1)).all p = true := by
  rw [List.take_add_one, ht, List.all_append, h0]; simp [h]
theorem all_end {α : Type} (p : α → Bool) (l : List α) (m : Nat) (h : ¬ m < l.length) (h0 : (l.take m).all p = true) : l.all p = true := by
  rwa [List.take_of_length_le (by omega)] at h0

set_option maxHeartbeats 400000 in
theorem isvar_any (v n : Int) (w : World) :
    Calls Tryz.prog 84 #[.int .i64 v, .int .i64 n] w fun e w' => e = .returned (.bool (isVarB v n)) ∧ w' = w := by
  unfold isVarB
  go_enter Tryz.func84, Tryz.ntmps84
  go_wp2
  · go_ret; exact ⟨ret_bool (by simp [*]), rfl⟩
  · go_ret; exact ⟨ret_bool (by rw [decide_eq_false (p := 0 ≤ v) (by omega)]; rfl), rfl⟩

set_option maxHeartbeats 400000 in
theorem isconst_any (n : Int) (w : World) :
    Calls Tryz.prog 109 #[.int .i64 n] w fun e w' => e = .returned (.bool (isConstB n)) ∧ w' = w := by
  unfold isConstB
  go_enter Tryz.func109, Tryz.ntmps109
  go_wp2_with fail
  refine (within_any _ 1000 (by omega) (by omega) _).mono ?_
  rintro e w ⟨rfl, rfl⟩
  go_wp2
  go_ret
  exact ⟨rfl, rfl⟩

set_option maxHeartbeats 400000 in
set_option maxRecDepth 100000 in
theorem consts_any (l : List Int) (v : Value) (w : World) (hv : IArg w v l) :
    Calls Tryz.prog 108 #[v] w fun e w' => e = .returned (.bool (l.all isConstB)) ∧ w' = w := by
  obtain ⟨a, c, rfl, hm, hr⟩ := hv
  have HV : Hid (∀ (i : Nat) (z : Int), l[i]? = some z → ∃ b off, a = some ⟨b, off, none⟩ ∧ b < w.heap.size ∧ w.cell? ⟨b, off + i, none⟩ = some (.int .i64 z)) := hr
  obtain ⟨R, hR⟩ : ∃ R, l.all isConstB = R := ⟨_, rfl⟩
  rw [hR]
  have HR : Hid (l.all isConstB = R) := hR
  unfold maxLen at hm
  obtain ⟨hm1, hm⟩ := hm
  clear hr hR
  go_enter Tryz.func108, Tryz.ntmps108
  go_wp2_with fail
  go_loop [7] (fun i => ∃ m : Nat, m ≤ l.length ∧ i = .int .i64 m ∧ Hid ((l.take m).all isConstB = true)) (fun i => l.length - (intOf i).toNat)
  case atStart => exact ⟨0, by omega, rfl, rfl⟩
  case round =>
    obtain ⟨m, hml, rfl, hall⟩ := hrel
    by_cases hlt : m < l.length
    · obtain ⟨z, hz⟩ : ∃ z, l[m]? = some z := ⟨l[m], by simp [hlt]⟩
      obtain ⟨b, off, ha, hb, hc⟩ := HV.out m z hz
      have HZ : Hid (l[m]? = some z) := hz
      subst ha
      clear hz
      cases hq : isConstB z
      · have HN : Hid (R = false) := by rw [← HR.out]; exact all_hit _ l m z HZ.out hq
        go_wp2_with fail
        refine (isconst_any _ _).mono ?_
        rintro e w ⟨rfl, rfl⟩
        rw [hq]
        clear hq
        go_wp2
        go_ret
        exact ⟨ret_bool HN.out.symm, rfl⟩
      · have HN : Hid ((l.take (m + 1)).all isConstB = true) := all_next _ l m z HZ.out hall.out hq
        go_wp2_with fail
        refine (isconst_any _ _).mono ?_
        rintro e w ⟨rfl, rfl⟩
        rw [hq]
        clear hq
        go_wp2
        go_round
        case rel => exact ⟨m + 1, by omega, by go_num, HN⟩
        case measure => simp [intOf]; omega
    · have HN : Hid (R = true) := by rw [← HR.out]; exact all_end _ l m hlt hall.out
      go_wp2
      go_ret
      exact ⟨ret_bool HN.out.symm, rfl⟩

set_option maxHeartbeats 400000 in
set_option maxRecDepth 100000 in
theorem long_any (l : List (List Int)) (v : Value) (n : Nat) (w : World) (hv : RArg w v l) :
    Calls Tryz.prog 107 #[v, .int .i64 n] w fun e w' => e = .returned (.bool (l.all fun r => decide (r.length = n))) ∧ w' = w := by
  obtain ⟨a, c, rfl, hm, hr⟩ := hv
  have HV : Hid (∀ (i : Nat) (r : List Int), l[i]? = some r → ∃ b off x, a = some ⟨b, off, none⟩ ∧ b < w.heap.size ∧ w.cell? ⟨b, off + i, none⟩ = some x ∧ IArg w x r) := hr
  obtain ⟨R, hR⟩ : ∃ R, (l.all fun r => decide (r.length = n)) = R := ⟨_, rfl⟩
  rw [hR]
  have HR : Hid ((l.all fun r => decide (r.length = n)) = R) := hR
  unfold maxLen at hm
  obtain ⟨hm1, hm⟩ := hm
  clear hr hR
  go_enter Tryz.func107, Tryz.ntmps107
  go_wp2_with fail
  go_loop [9] (fun i => ∃ m : Nat, m ≤ l.length ∧ i = .int .i64 m ∧ Hid ((l.take m).all (fun r => decide (r.length = n)) = true)) (fun i => l.length - (intOf i).toNat)
  case atStart => exact ⟨0, by omega, rfl, rfl⟩
  case round =>
    obtain ⟨m, hml, rfl, hall⟩ := hrel
    by_cases hlt : m < l.length
    · obtain ⟨z, hz⟩ : ∃ z, l[m]? = some z := ⟨l[m], by simp [hlt]⟩
      obtain ⟨b, off, x, ha, hb, hc, hx⟩ := HV.out m z hz
      obtain ⟨a2, c2, rfl, hm2, _⟩ := hx
      have HZ : Hid (l[m]? = some z) := hz
      subst ha
      clear hz hm2
      by_cases hq : z.length = n
      · have HN : Hid ((l.take (m + 1)).all (fun r => decide (r.length = n)) = true) := all_next _ l m z HZ.out hall.out (decide_eq_true hq)
        have hq2 : ((z.length : Int) != (n : Int)) = false := by simp [hq]
        clear hq
        go_wp2
        go_round
        case rel => exact ⟨m + 1, by omega, by go_num, HN⟩
        case measure => simp [intOf]; omega
      · have HN : Hid (R = false) := by rw [← HR.out]; exact all_hit _ l m z HZ.out (decide_eq_false hq)
        have hq2 : ((z.length : Int) != (n : Int)) = true := by simp; omega
        clear hq
        go_wp2
        go_ret
        exact ⟨ret_bool HN.out.symm, rfl⟩
    · have HN : Hid (R = true) := by rw [← HR.out]; exact all_end _ l m hlt hall.out
      go_wp2
      go_ret
      exact ⟨ret_bool HN.out.symm, rfl⟩

def opB (l : MLit) : Bool := decide (1 ≤ l.op) && decide (l.op ≤ 4)
set_option maxHeartbeats 800000 in
set_option maxRecDepth 100000 in
theorem lits_any (l : List MLit) (v : Value) (w : World) (hv : LArg w v l) :
    Calls Tryz.prog 83 #[v] w fun e w' => e = .returned (.int .i64 (litsE l)) ∧ Below w.heap.size w w' := by
  obtain ⟨a, c, rfl, hm, hr⟩ := hv
  have HV : Hid (∀ (i : Nat) (t : MLit), l[i]? = some t → ∃ b off, a = some ⟨b, off, none⟩ ∧ b < w.heap.size ∧
    w.cell? ⟨b, off + i * 3, none⟩ = some (.int .i64 t.var) ∧ w.cell? ⟨b, off + i * 3 + 1, none⟩ = some (.int .i64 t.op) ∧ w.cell? ⟨b, off + i * 3 + 2, none⟩ = some (.int .i64 t.n)) := hr
  obtain ⟨R, hR⟩ : ∃ R, litsE l = R := ⟨_, rfl⟩
  rw [hR]
  have hE : R = (if l.all opB then (if l.all (fun t => isConstB t.n) then 0 else 3) else 7) := by rw [← hR]; rfl
  have HE : Hid (R = (if l.all opB then (if l.all (fun t => isConstB t.n) then 0 else 3) else 7)) := hE
  unfold maxLen at hm
  obtain ⟨hm1, hm⟩ := hm
  clear hr hR hE
  go_enter Tryz.func83, Tryz.ntmps83
  go_wp2_with fail
  go_loopw [9] (fun i wr => ∃ m : Nat, m ≤ l.length ∧ i = .int .i64 m ∧ Hid ((l.take m).all opB = true) ∧ Below w.heap.size w wr) (fun i _ => l.length - (intOf i).toNat)
  case atStart => exact ⟨0, by omega, rfl, rfl, Below.refl _ _⟩
  case round =>
    obtain ⟨m, hml, rfl, hall, hbw⟩ := hrel
    by_cases hlt : m < l.length
    · obtain ⟨t, hz⟩ : ∃ z, l[m]? = some z := ⟨l[m], by simp [hlt]⟩
      obtain ⟨b, off, ha, hb, c0, c1, c2⟩ := HV.out m t hz
      have HZ : Hid (l[m]? = some t) := hz
      have hc0 := (hbw.cell (p := ⟨b, off + m * 3, none⟩) hb).trans c0
      have hc1 := (hbw.cell (p := ⟨b, off + m * 3 + 1, none⟩) hb).trans c1
      have hc2 := (hbw.cell (p := ⟨b, off + m * 3 + 2, none⟩) hb).trans c2
      have hsz := hbw.size
      subst ha
      clear hz c0 c1 c2
      by_cases h1 : 1 ≤ t.op
      · by_cases h4 : t.op ≤ 4
        · have HN : Hid ((l.take (m + 1)).all opB = true) := all_next _ l m t HZ.out hall.out (by unfold opB; rw [decide_eq_true h1, decide_eq_true h4]; rfl)
          go_wp2
          go_roundw
          case rel => exact ⟨m + 1, by omega, by go_num, HN, hbw.alloc hsz _⟩
          case measure => simp [intOf]; omega
        · have HN : Hid (R = 7) := by rw [HE.out, all_hit opB l m t HZ.out (by unfold opB; rw [decide_eq_true h1, decide_eq_false h4]; rfl)]; rfl
          go_wp2
          go_ret
          exact ⟨ret_int HN.out.symm, hbw.alloc hsz _⟩
      · have HN : Hid (R = 7) := by rw [HE.out, all_hit opB l m t HZ.out (by unfold opB; rw [decide_eq_false h1]; rfl)]; rfl
        go_wp2
        go_ret
        exact ⟨ret_int HN.out.symm, hbw.alloc hsz _⟩
    · have HOP : Hid (l.all opB = true) := all_end _ l m hlt hall.out
      have hsz := hbw.size
      obtain ⟨wo, rfl⟩ : ∃ wo : World, wo = wr := ⟨_, rfl⟩
      go_wp2
      go_loopw [24] (fun i wr => ∃ m : Nat, m ≤ l.length ∧ i = .int .i64 m ∧ Hid ((l.take m).all (fun t => isConstB t.n) = true) ∧ Below w.heap.size w wr) (fun i _ => l.length - (intOf i).toNat)
      case atStart => exact ⟨0, by omega, rfl, rfl, hbw⟩
      case round =>
        clear hbw hsz hall hml hlt
        obtain ⟨m, hml, rfl, hall, hbw⟩ := hrel
        by_cases hlt : m < l.length
        · obtain ⟨t, hz⟩ : ∃ z, l[m]? = some z := ⟨l[m], by simp [hlt]⟩
          obtain ⟨b, off, ha, hb, c0, c1, c2⟩ := HV.out m t hz
          have HZ : Hid (l[m]? = some t) := hz
          have hc0 := (hbw.cell (p := ⟨b, off + m * 3, none⟩) hb).trans c0
          have hc1 := (hbw.cell (p := ⟨b, off + m * 3 + 1, none⟩) hb).trans c1
          have hc2 := (hbw.cell (p := ⟨b, off + m * 3 + 2, none⟩) hb).trans c2
          have hsz := hbw.size
          subst ha
          clear hz c0 c1 c2
          cases hq : isConstB t.n
          · have HN : Hid (R = 3) := by rw [HE.out, HOP.out, all_hit (fun t : MLit => isConstB t.n) l m t HZ.out hq]; rfl
            go_wp2_with fail
            refine (isconst_any _ _).mono ?_
            rintro e w2 ⟨rfl, hw2⟩
            rw [hq, hw2]
            clear hq hw2
            go_wp2
            go_ret
            exact ⟨ret_int HN.out.symm, hbw.alloc hsz _⟩
          · have HN : Hid ((l.take (m + 1)).all (fun t => isConstB t.n) = true) := all_next _ l m t HZ.out hall.out hq
            go_wp2_with fail
            refine (isconst_any _ _).mono ?_
            rintro e w2 ⟨rfl, hw2⟩
            rw [hq, hw2]
            clear hq hw2
            go_wp2
            go_roundw
            case rel => exact ⟨m + 1, by omega, by go_num, HN, hbw.alloc hsz _⟩
            case measure => simp [intOf]; omega
        · have HN : Hid (R = 0) := by rw [HE.out, HOP.out, all_end _ l m hlt hall.out]; rfl
          go_wp2
          go_ret
          exact ⟨ret_int HN.out.symm, hbw⟩
end Go.Proofs.YtdjbejlbmaiocabGreatDoor
/-
  WALKS: package model: constraints.
-/
namespace Go.Proofs.YtdjbejlbmaiocabGreatDoor
open Go.RowKit

set_option maxHeartbeats 800000 in
set_option maxRecDepth 100000 in
theorem many_any (c : MCon) (vv vc vr vl : Value) (w : World) (hk : KArg w vv vc vr vl c) :
    Calls Tryz.prog 79 #[conV vv vc vr vl c] w fun e w' => e = .returned (.bool (manyB c)) ∧ Below w.heap.size w w' := by
  obtain ⟨⟨a1, c1, rfl, hm1, hr1⟩, ⟨a2, c2, rfl, hm2, hr2⟩, ⟨a3, c3, rfl, hm3, hr3⟩, ⟨a4, c4, rfl, hm4, hr4⟩⟩ := hk
  clear hr1 hr2 hr3 hr4 hm1 hm2 hm3 hm4
  unfold conV manyB
  by_cases h1 : 4 < c.vars.length
  · rw [decide_eq_true h1]
    go_enter Tryz.func79, Tryz.ntmps79
    go_wp2
    go_ret
    exact ⟨ret_bool (by first | (simp; done) | (rw [Bool.eq_iff_iff]; simp; omega)), below_alloc _ _⟩
  · rw [decide_eq_false h1]
    by_cases h2 : 4 < c.lits.length
    · rw [decide_eq_true h2]
      go_enter Tryz.func79, Tryz.ntmps79
      go_wp2
      go_ret
      exact ⟨ret_bool (by first | (simp; done) | (rw [Bool.eq_iff_iff]; simp; omega)), below_alloc _ _⟩
    · rw [decide_eq_false h2]
      by_cases h3 : 8 < c.consts.length
      · rw [decide_eq_true h3]
        go_enter Tryz.func79, Tryz.ntmps79
        go_wp2
        go_ret
        exact ⟨ret_bool (by first | (simp; done) | (rw [Bool.eq_iff_iff]; simp; omega)), below_alloc _ _⟩
      · rw [decide_eq_false h3]
        go_enter Tryz.func79, Tryz.ntmps79
        go_wp2
        go_ret
        exact ⟨ret_bool (by first | (simp; done) | (rw [Bool.eq_iff_iff]; simp; omega)), below_alloc _ _⟩

set_option maxHeartbeats 800000 in
set_option maxRecDepth 100000 in
theorem vars_any (c : MCon) (n : Int) (vv vc vr vl : Value) (w : World) (hk : KArg w vv vc vr vl c) :
    Calls Tryz.prog 81 #[conV vv vc vr vl c, .int .i64 n] w fun e w' => e = .returned (.bool (varsB c n)) ∧ Below w.heap.size w w' := by
  obtain ⟨⟨a1, c1, rfl, hm1, hr1⟩, _, _, ⟨a4, c4, rfl, hm4, hr4⟩⟩ := hk
  have HI : Hid (∀ (i : Nat) (z : Int), c.vars[i]? = some z → ∃ b off, a1 = some ⟨b, off, none⟩ ∧ b < w.heap.size ∧ w.cell? ⟨b, off + i, none⟩ = some (.int .i64 z)) := hr1
  have HL : Hid (∀ (i : Nat) (t : MLit), c.lits[i]? = some t → ∃ b off, a4 = some ⟨b, off, none⟩ ∧ b < w.heap.size ∧
    w.cell? ⟨b, off + i * 3, none⟩ = some (.int .i64 t.var) ∧ w.cell? ⟨b, off + i * 3 + 1, none⟩ = some (.int .i64 t.op) ∧ w.cell? ⟨b, off + i * 3 + 2, none⟩ = some (.int .i64 t.n)) := hr4
  obtain ⟨R, hR⟩ : ∃ R, varsB c n = R := ⟨_, rfl⟩
  rw [hR]
  have HE : Hid (R = (c.vars.all (fun v => isVarB v n) && c.lits.all (fun l => isVarB l.var n))) := by rw [← hR]; rfl
  unfold maxLen at hm1 hm4
  obtain ⟨hm11, hm1⟩ := hm1
  obtain ⟨hm41, hm4⟩ := hm4
  clear hr1 hr4 hR
  unfold conV
  go_enter Tryz.func81, Tryz.ntmps81
  go_wp2_with fail
  obtain ⟨w0, hw0⟩ : ∃ w0 : World, w0 = w.alloc (.cells #[.int .i64 c.kind, .slice a1 c.vars.length c1, vc, .int .i64 c.n, vr, .slice a4 c.lits.length c4] 54) := ⟨_, rfl⟩
  rw [← hw0]
  have hb0 : Below w.heap.size w w0 := by rw [hw0]; exact below_alloc _ _
  have hc5 : w0.cell? ⟨w.heap.size, 5, none⟩ = some (.slice a4 c.lits.length c4) := by rw [hw0]; simp
  have hs0 : w0.heap.size = w.heap.size + 1 := by rw [hw0]; simp
  have HS0 : Hid (w0.heap.size = w.heap.size + 1) := hs0
  clear hw0 hs0
  go_loopw [12] (fun i wr => ∃ m : Nat, m ≤ c.vars.length ∧ i = .int .i64 m ∧ Hid ((c.vars.take m).all (fun v => isVarB v n) = true) ∧ wr = w0) (fun i _ => c.vars.length - (intOf i).toNat)
  case atStart => exact ⟨0, by omega, rfl, rfl, rfl⟩
  case round =>
    obtain ⟨m, hml, rfl, hall, rfl⟩ := hrel
    by_cases hlt : m < c.vars.length
    · obtain ⟨z, hz⟩ : ∃ z, c.vars[m]? = some z := ⟨c.vars[m], by simp [hlt]⟩
      obtain ⟨b, off, ha, hb, hc⟩ := HI.out m z hz
      have hcr := (hb0.cell (p := ⟨b, off + m, none⟩) hb).trans hc
      have HZ : Hid (c.vars[m]? = some z) := hz
      subst ha
      clear hz hc
      cases hq : isVarB z n
      · have HN : Hid (R = false) := by rw [HE.out, all_hit (fun v => isVarB v n) c.vars m z HZ.out hq]; rfl
        go_wp2_with fail
        refine (isvar_any _ _ _).mono ?_
        rintro e w2 ⟨rfl, hw2⟩
        rw [hq, hw2]
        clear hq hw2
        go_wp2
        go_ret
        exact ⟨ret_bool HN.out.symm, hb0⟩
      · have HN : Hid ((c.vars.take (m + 1)).all (fun v => isVarB v n) = true) := all_next _ c.vars m z HZ.out hall.out hq
        go_wp2_with fail
        refine (isvar_any _ _ _).mono ?_
        rintro e w2 ⟨rfl, hw2⟩
        rw [hq, hw2]
        clear hq hw2
        go_wp2
        go_roundw
        case rel => exact ⟨m + 1, by omega, by go_num, HN, by first | rfl | trivial⟩
        case measure => simp [intOf]; omega
    · have HV : Hid (c.vars.all (fun v => isVarB v n) = true) := all_end _ c.vars m hlt hall.out
      obtain ⟨wo, rfl⟩ : ∃ wo : World, wo = wr := ⟨_, rfl⟩
      go_wp2
      clear hml hall hlt
      go_loopw [24] (fun i wr => ∃ m : Nat, m ≤ c.lits.length ∧ i = .int .i64 m ∧ Hid ((c.lits.take m).all (fun l => isVarB l.var n) = true) ∧ Below w.heap.size w wr) (fun i _ => c.lits.length - (intOf i).toNat)
      case atStart => exact ⟨0, by omega, rfl, rfl, hb0⟩
      case round =>
        obtain ⟨m, hml, rfl, hall, hbw⟩ := hrel
        by_cases hlt : m < c.lits.length
        · obtain ⟨t, hz⟩ : ∃ z, c.lits[m]? = some z := ⟨c.lits[m], by simp [hlt]⟩
          obtain ⟨b, off, ha, hb, d0, d1, d2⟩ := HL.out m t hz
          have hd0 := (hbw.cell (p := ⟨b, off + m * 3, none⟩) hb).trans d0
          have hd1 := (hbw.cell (p := ⟨b, off + m * 3 + 1, none⟩) hb).trans d1
          have hd2 := (hbw.cell (p := ⟨b, off + m * 3 + 2, none⟩) hb).trans d2
          have HZ : Hid (c.lits[m]? = some t) := hz
          have hsz := hbw.size
          subst ha
          clear hz d0 d1 d2
          cases hq : isVarB t.var n
          · have HN : Hid (R = false) := by rw [HE.out, HV.out, all_hit (fun l : MLit => isVarB l.var n) c.lits m t HZ.out hq]; rfl
            go_wp2_with fail
            refine (isvar_any _ _ _).mono ?_
            rintro e w2 ⟨rfl, hw2⟩
            rw [hq, hw2]
            clear hq hw2
            go_wp2
            go_ret
            exact ⟨ret_bool HN.out.symm, hbw.alloc hsz _⟩
          · have HN : Hid ((c.lits.take (m + 1)).all (fun l => isVarB l.var n) = true) := all_next _ c.lits m t HZ.out hall.out hq
            go_wp2_with fail
            refine (isvar_any _ _ _).mono ?_
            rintro e w2 ⟨rfl, hw2⟩
            rw [hq, hw2]
            clear hq hw2
            go_wp2
            go_roundw
            case rel => exact ⟨m + 1, by omega, by go_num, HN, hbw.alloc hsz _⟩
            case measure => simp [intOf]; omega
        · have HN : Hid (R = true) := by rw [HE.out, HV.out, all_end _ c.lits m hlt hall.out]; rfl
          go_wp2
          go_ret
          exact ⟨ret_bool HN.out.symm, hbw⟩
end Go.Proofs.YtdjbejlbmaiocabGreatDoor
/-
  WALKS: package model: hasConsts, hasForm, checkCon, checkGoal, Check.
-/
namespace Go.Proofs.YtdjbejlbmaiocabGreatDoor
open Go.RowKit

set_option maxHeartbeats 800000 in
set_option maxRecDepth 100000 in
theorem hasconsts_any (c : MCon) (vv vc vr vl : Value) (w : World) (hk : KArg w vv vc vr vl c) :
    Calls Tryz.prog 82 #[conV vv vc vr vl c] w fun e w' => e = .returned (.bool (constsB c)) ∧ Below w.heap.size w w' := by
  obtain ⟨_, hc2, ⟨a3, c3, rfl, hm3, hr3⟩, _⟩ := hk
  have HC2 : Hid (∀ o : Obj, IArg (w.alloc o) vc c.consts) := fun o => IArg.below (below_alloc _ _) hc2
  have HV : Hid (∀ (i : Nat) (r : List Int), c.rows[i]? = some r → ∃ b off x, a3 = some ⟨b, off, none⟩ ∧ b < w.heap.size ∧ w.cell? ⟨b, off + i, none⟩ = some x ∧ IArg w x r) := hr3
  obtain ⟨R, hR⟩ : ∃ R, constsB c = R := ⟨_, rfl⟩
  rw [hR]
  have hE : R = (c.consts.all isConstB && (isConstB c.n && c.rows.all fun r => r.all isConstB)) := by rw [← hR]; rfl
  unfold maxLen at hm3
  obtain ⟨hm31, hm3⟩ := hm3
  clear hr3 hR hc2
  unfold conV
  cases h1 : c.consts.all isConstB
  · have HN : Hid (R = false) := by rw [hE, h1]; rfl
    have H1 : Hid (c.consts.all isConstB = false) := h1
    clear h1 hE
    go_enter Tryz.func82, Tryz.ntmps82
    go_wp2_with fail
    refine (consts_any c.consts _ _ (HC2.out _)).mono ?_
    rintro e w2 ⟨rfl, hw2⟩
    rw [H1.out, hw2]
    clear hw2
    go_wp2
    go_ret
    exact ⟨ret_bool HN.out.symm, below_alloc _ _⟩
  · have H1 : Hid (c.consts.all isConstB = true) := h1
    cases h2 : isConstB c.n
    · have HN : Hid (R = false) := by rw [hE, h1, h2]; rfl
      have H2 : Hid (isConstB c.n = false) := h2
      clear h1 h2 hE
      go_enter Tryz.func82, Tryz.ntmps82
      go_wp2_with fail
      refine (consts_any c.consts _ _ (HC2.out _)).mono ?_
      rintro e w2 ⟨rfl, hw2⟩
      rw [H1.out, hw2]
      clear hw2
      go_wp2_with fail
      refine (isconst_any _ _).mono ?_
      rintro e w2 ⟨rfl, hw2⟩
      rw [H2.out, hw2]
      clear hw2
      go_wp2
      go_ret
      exact ⟨ret_bool HN.out.symm, below_alloc _ _⟩
    · have HE : Hid (R = c.rows.all fun r => r.all isConstB) := by rw [hE, h1, h2]; rfl
      have H2 : Hid (isConstB c.n = true) := h2
      clear h1 h2 hE
      go_enter Tryz.func82, Tryz.ntmps82
      go_wp2_with fail
      refine (consts_any c.consts _ _ (HC2.out _)).mono ?_
      rintro e w2 ⟨rfl, hw2⟩
      rw [H1.out, hw2]
      clear hw2
      go_wp2_with fail
      refine (isconst_any _ _).mono ?_
      rintro e w2 ⟨rfl, hw2⟩
      rw [H2.out, hw2]
      clear hw2
      go_wp2
      obtain ⟨w0, hw0⟩ : ∃ w0 : World, w0 = w.alloc (.cells #[.int .i64 c.kind, vv, vc, .int .i64 c.n, .slice a3 c.rows.length c3, vl] 54) := ⟨_, rfl⟩
      rw [← hw0]
      have hb0 : Below w.heap.size w w0 := by rw [hw0]; exact below_alloc _ _
      clear hw0
      go_loopw [18] (fun i wr => ∃ m : Nat, m ≤ c.rows.length ∧ i = .int .i64 m ∧ Hid ((c.rows.take m).all (fun r => r.all isConstB) = true) ∧ wr = w0) (fun i _ => c.rows.length - (intOf i).toNat)
      case atStart => exact ⟨0, by omega, rfl, rfl, rfl⟩
      case round =>
        obtain ⟨m, hml, rfl, hall, rfl⟩ := hrel
        by_cases hlt : m < c.rows.length
        · obtain ⟨z, hz⟩ : ∃ z, c.rows[m]? = some z := ⟨c.rows[m], by simp [hlt]⟩
          obtain ⟨b, off, x, ha, hb, hc, hx⟩ := HV.out m z hz
          have hcr := (hb0.cell (p := ⟨b, off + m, none⟩) hb).trans hc
          have HX : Hid (IArg wr x z) := IArg.below hb0 hx
          have HZ : Hid (c.rows[m]? = some z) := hz
          subst ha
          clear hz hc hx
          cases hq : z.all isConstB
          · have HN : Hid (R = false) := by rw [HE.out]; exact all_hit (fun r : List Int => r.all isConstB) c.rows m z HZ.out hq
            have HQ : Hid (z.all isConstB = false) := hq
            clear hq
            go_wp2_with fail
            refine (consts_any z _ _ HX.out).mono ?_
            rintro e w2 ⟨rfl, hw2⟩
            rw [HQ.out, hw2]
            clear hw2
            go_wp2
            go_ret
            exact ⟨ret_bool HN.out.symm, hb0⟩
          · have HN : Hid ((c.rows.take (m + 1)).all (fun r => r.all isConstB) = true) := all_next _ c.rows m z HZ.out hall.out hq
            have HQ : Hid (z.all isConstB = true) := hq
            clear hq
            go_wp2_with fail
            refine (consts_any z _ _ HX.out).mono ?_
            rintro e w2 ⟨rfl, hw2⟩
            rw [HQ.out, hw2]
            clear hw2
            go_wp2
            go_roundw
            case rel => exact ⟨m + 1, by omega, by go_num, HN, by first | rfl | trivial⟩
            case measure => simp [intOf]; omega
        · have HN : Hid (R = true) := by rw [HE.out]; exact all_end _ c.rows m hlt hall.out
          go_wp2
          go_ret
          exact ⟨ret_bool HN.out.symm, hb0⟩

set_option maxHeartbeats 1600000 in
set_option maxRecDepth 100000 in
theorem form_any (c : MCon) (vv vc vr vl : Value) (w : World) (hk : KArg w vv vc vr vl c) (l1 : c.vars.length ≤ 4) (l2 : c.consts.length ≤ 8) (l3 : c.rows.length ≤ 20) (l4 : c.lits.length ≤ 4) :
    Calls Tryz.prog 80 #[conV vv vc vr vl c] w fun e w' => e = .returned (.bool (formB c)) ∧ Below w.heap.size w w' := by
  obtain ⟨⟨a1, c1, rfl, _, _⟩, ⟨a2, c2, rfl, _, _⟩, hr, ⟨a4, c4, rfl, _, _⟩⟩ := hk
  have HRR : Hid (∀ w' : World, Below w.heap.size w w' → RArg w' vr c.rows) := fun w' h => RArg.below h hr
  obtain ⟨a3, c3, rfl, _, _⟩ := hr
  obtain ⟨R, hR⟩ : ∃ R, formB c = R := ⟨_, rfl⟩
  rw [hR]
  unfold formB at hR
  unfold conV
  by_cases h1 : c.kind = 1
  · have hk1 : R = (decide (1 ≤ c.vars.length) && (decide (c.consts.length = c.vars.length) && decide (c.rows.length + c.lits.length = 0))) := by rw [← hR, if_pos (by omega)]
    have HR : Hid (R = _) := hk1
    have hkk : (c.kind == 1) = true := by simpa using h1
    clear hR hk1 h1
    go_enter Tryz.func80, Tryz.ntmps80
    go_wp2
    go_quiet (fail)
    go_wp2
    all_goals
      go_ret
      refine ⟨ret_bool ?_, below_drewN (below_alloc _ _) _⟩
      rw [HR.out]
      clear HR HRR
      first
        | rfl
        | (try simp only [beq_iff_eq] at *
           rw [Bool.eq_iff_iff]
           simp only [Bool.and_eq_true, decide_eq_true_eq, beq_iff_eq, Bool.false_eq_true, false_iff]
           omega)
  · skip
    by_cases h2 : c.kind = 2
    · have hk2 : R = (decide (1 ≤ c.vars.length) && (decide (c.consts.length = c.vars.length) && decide (c.rows.length + c.lits.length = 0))) := by rw [← hR, if_pos (by omega)]
      have HR : Hid (R = _) := hk2
      have hkk : (c.kind == 2) = true := by simpa using h2
      have hf1 : (c.kind == 1) = false := by simpa using h1
      clear hR hk2 h1 h2
      go_enter Tryz.func80, Tryz.ntmps80
      go_wp2
      go_quiet (fail)
      go_wp2
      all_goals
        go_ret
        refine ⟨ret_bool ?_, below_drewN (below_alloc _ _) _⟩
        rw [HR.out]
        clear HR HRR
        first
          | rfl
          | (try simp only [beq_eq_false_iff_ne, beq_iff_eq, ne_eq] at *
             rw [Bool.eq_iff_iff]
             simp only [Bool.and_eq_true, decide_eq_true_eq, beq_iff_eq, Bool.false_eq_true, false_iff]
             omega)
    · skip
      by_cases h3 : c.kind = 3
      · have hk3 : R = (decide (1 ≤ c.vars.length) && (decide (c.consts.length = c.vars.length) && decide (c.rows.length + c.lits.length = 0))) := by rw [← hR, if_pos (by omega)]
        have HR : Hid (R = _) := hk3
        have hkk : (c.kind == 3) = true := by simpa using h3
        have hf1 : (c.kind == 1) = false := by simpa using h1
        have hf2 : (c.kind == 2) = false := by simpa using h2
        clear hR hk3 h1 h2 h3
        go_enter Tryz.func80, Tryz.ntmps80
        go_wp2
        go_quiet (fail)
        go_wp2
        all_goals
          go_ret
          refine ⟨ret_bool ?_, below_drewN (below_alloc _ _) _⟩
          rw [HR.out]
          clear HR HRR
          first
            | rfl
            | (try simp only [beq_eq_false_iff_ne, beq_iff_eq, ne_eq] at *
               rw [Bool.eq_iff_iff]
               simp only [Bool.and_eq_true, decide_eq_true_eq, beq_iff_eq, Bool.false_eq_true, false_iff]
               omega)
      · skip
        have h123 : ¬ (c.kind = 1 ∨ c.kind = 2 ∨ c.kind = 3) := by omega
        rw [if_neg h123] at hR
        by_cases hn : c.n = 0
        · skip
          rw [if_neg (by omega)] at hR
          have hn0 : (c.n != 0) = false := by simpa using hn
          by_cases h4 : c.kind = 4
          · rw [if_pos h4] at hR
            have HR : Hid (R = (decide (1 ≤ c.vars.length) && decide (c.consts.length + c.rows.length + c.lits.length = 0))) := hR.symm
            have hkk : (c.kind == 4) = true := by simpa using h4
            have hf1 : (c.kind == 1) = false := by simpa using h1
            have hf2 : (c.kind == 2) = false := by simpa using h2
            have hf3 : (c.kind == 3) = false := by simpa using h3
            clear hR hn h1 h2 h3 h4 h123
            go_enter Tryz.func80, Tryz.ntmps80
            go_wp2
            go_quiet (fail)
            go_wp2
            all_goals
              go_ret
              refine ⟨ret_bool ?_, below_drewN (below_alloc _ _) _⟩
              rw [HR.out]
              clear HR HRR
              first
                | rfl
                | (try simp only [beq_eq_false_iff_ne, beq_iff_eq, ne_eq] at *
                   rw [Bool.eq_iff_iff]
                   simp only [Bool.and_eq_true, decide_eq_true_eq, beq_iff_eq, Bool.false_eq_true, false_iff]
                   omega)
          · skip
            rw [if_neg h4] at hR
            by_cases h5 : c.kind = 5
            · rw [if_pos h5] at hR
              have HR : Hid (R = (decide (c.vars.length = 2) && (decide (1 ≤ c.consts.length) && decide (c.rows.length + c.lits.length = 0)))) := hR.symm
              have hkk : (c.kind == 5) = true := by simpa using h5
              have hf1 : (c.kind == 1) = false := by simpa using h1
              have hf2 : (c.kind == 2) = false := by simpa using h2
              have hf3 : (c.kind == 3) = false := by simpa using h3
              have hf4 : (c.kind == 4) = false := by simpa using h4
              clear hR hn h1 h2 h3 h4 h5 h123
              go_enter Tryz.func80, Tryz.ntmps80
              go_wp2
              go_quiet (fail)
              go_wp2
              all_goals
                go_ret
                refine ⟨ret_bool ?_, below_drewN (below_alloc _ _) _⟩
                rw [HR.out]
                clear HR HRR
                first
                  | rfl
                  | (try simp only [beq_eq_false_iff_ne, beq_iff_eq, ne_eq] at *
                     rw [Bool.eq_iff_iff]
                     simp only [Bool.and_eq_true, decide_eq_true_eq, beq_iff_eq, Bool.false_eq_true, false_iff]
                     omega)
            · skip
              rw [if_neg h5] at hR
              by_cases h6 : c.kind = 6
              · rw [if_pos h6] at hR
                have hkk : (c.kind == 6) = true := by simpa using h6
                have hf1 : (c.kind == 1) = false := by simpa using h1
                have hf2 : (c.kind == 2) = false := by simpa using h2
                have hf3 : (c.kind == 3) = false := by simpa using h3
                have hf4 : (c.kind == 4) = false := by simpa using h4
                have hf5 : (c.kind == 5) = false := by simpa using h5
                clear hn h123 h1 h2 h3 h4 h5 h6
                by_cases g1 : 1 ≤ c.vars.length
                · by_cases g2 : c.consts.length + c.lits.length = 0
                  · have HR : Hid (R = c.rows.all fun r => decide (r.length = c.vars.length)) := by rw [← hR, decide_eq_true g1, decide_eq_true g2]; rfl
                    clear hR
                    go_enter Tryz.func80, Tryz.ntmps80
                    go_wp2
                    go_quiet (fail)
                    go_wp2_with fail
                    refine (long_any c.rows _ c.vars.length _ (HRR.out _ (below_drewN (below_alloc _ _) _))).mono ?_
                    rintro e w2 ⟨rfl, hw2⟩
                    rw [hw2]
                    clear hw2
                    go_wp2
                    go_ret
                    exact ⟨ret_bool HR.out.symm, below_drewN (below_alloc _ _) _⟩
                  · have HR : Hid (R = false) := by rw [← hR, decide_eq_true g1, decide_eq_false g2]; rfl
                    have g3 : ¬ (c.consts.length : Int) + (c.lits.length : Int) = 0 := by omega
                    clear hR
                    go_enter Tryz.func80, Tryz.ntmps80
                    go_wp2
                    go_quiet (fail)
                    go_wp2
                    all_goals (go_ret; exact ⟨ret_bool (by rw [HR.out]), below_drewN (below_alloc _ _) _⟩)
                · have HR : Hid (R = false) := by rw [← hR, decide_eq_false g1]; rfl
                  clear hR
                  go_enter Tryz.func80, Tryz.ntmps80
                  go_wp2
                  go_quiet (fail)
                  go_wp2
                  all_goals (go_ret; exact ⟨ret_bool (by rw [HR.out]), below_drewN (below_alloc _ _) _⟩)
              · skip
                rw [if_neg h6] at hR
                by_cases h7 : c.kind = 7
                · rw [if_pos h7] at hR
                  have HR : Hid (R = (decide (c.vars.length = 3) && decide (c.consts.length + c.rows.length + c.lits.length = 0))) := hR.symm
                  have hkk : (c.kind == 7) = true := by simpa using h7
                  have hf1 : (c.kind == 1) = false := by simpa using h1
                  have hf2 : (c.kind == 2) = false := by simpa using h2
                  have hf3 : (c.kind == 3) = false := by simpa using h3
                  have hf4 : (c.kind == 4) = false := by simpa using h4
                  have hf5 : (c.kind == 5) = false := by simpa using h5
                  have hf6 : (c.kind == 6) = false := by simpa using h6
                  clear hR hn h1 h2 h3 h4 h5 h6 h7 h123
                  go_enter Tryz.func80, Tryz.ntmps80
                  go_wp2
                  go_quiet (fail)
                  go_wp2
                  all_goals
                    go_ret
                    refine ⟨ret_bool ?_, below_drewN (below_alloc _ _) _⟩
                    rw [HR.out]
                    clear HR HRR
                    first
                      | rfl
                      | (try simp only [beq_eq_false_iff_ne, beq_iff_eq, ne_eq] at *
                         rw [Bool.eq_iff_iff]
                         simp only [Bool.and_eq_true, decide_eq_true_eq, beq_iff_eq, Bool.false_eq_true, false_iff]
                         omega)
                · skip
                  rw [if_neg h7] at hR
                  by_cases h8 : c.kind = 8
                  · rw [if_pos h8] at hR
                    have HR : Hid (R = (decide (2 ≤ c.vars.length) && decide (c.consts.length + c.rows.length + c.lits.length = 0))) := hR.symm
                    have hkk : (c.kind == 8) = true := by simpa using h8
                    have hf1 : (c.kind == 1) = false := by simpa using h1
                    have hf2 : (c.kind == 2) = false := by simpa using h2
                    have hf3 : (c.kind == 3) = false := by simpa using h3
                    have hf4 : (c.kind == 4) = false := by simpa using h4
                    have hf5 : (c.kind == 5) = false := by simpa using h5
                    have hf6 : (c.kind == 6) = false := by simpa using h6
                    have hf7 : (c.kind == 7) = false := by simpa using h7
                    clear hR hn h1 h2 h3 h4 h5 h6 h7 h8 h123
                    go_enter Tryz.func80, Tryz.ntmps80
                    go_wp2
                    go_quiet (fail)
                    go_wp2
                    all_goals
                      go_ret
                      refine ⟨ret_bool ?_, below_drewN (below_alloc _ _) _⟩
                      rw [HR.out]
                      clear HR HRR
                      first
                        | rfl
                        | (try simp only [beq_eq_false_iff_ne, beq_iff_eq, ne_eq] at *
                           rw [Bool.eq_iff_iff]
                           simp only [Bool.and_eq_true, decide_eq_true_eq, beq_iff_eq, Bool.false_eq_true, false_iff]
                           omega)
                  · skip
                    rw [if_neg h8] at hR
                    by_cases h9 : c.kind = 9
                    · rw [if_pos h9] at hR
                      have HR : Hid (R = (decide (c.vars.length + c.consts.length + c.rows.length = 0))) := hR.symm
                      have hkk : (c.kind == 9) = true := by simpa using h9
                      have hf1 : (c.kind == 1) = false := by simpa using h1
                      have hf2 : (c.kind == 2) = false := by simpa using h2
                      have hf3 : (c.kind == 3) = false := by simpa using h3
                      have hf4 : (c.kind == 4) = false := by simpa using h4
                      have hf5 : (c.kind == 5) = false := by simpa using h5
                      have hf6 : (c.kind == 6) = false := by simpa using h6
                      have hf7 : (c.kind == 7) = false := by simpa using h7
                      have hf8 : (c.kind == 8) = false := by simpa using h8
                      clear hR hn h1 h2 h3 h4 h5 h6 h7 h8 h9 h123
                      go_enter Tryz.func80, Tryz.ntmps80
                      go_wp2
                      go_quiet (fail)
                      go_wp2
                      all_goals
                        go_ret
                        refine ⟨ret_bool ?_, below_drewN (below_alloc _ _) _⟩
                        rw [HR.out]
                        clear HR HRR
                        first
                          | rfl
                          | (try simp only [beq_eq_false_iff_ne, beq_iff_eq, ne_eq] at *
                             rw [Bool.eq_iff_iff]
                             simp only [decide_eq_true_eq, beq_iff_eq]
                             omega)
                    · skip
                      rw [if_neg h9] at hR
                      by_cases h10 : c.kind = 10
                      · rw [if_pos h10] at hR
                        have HR : Hid (R = (decide (c.vars.length = 1) && (decide (c.lits.length = 1) && decide (c.consts.length + c.rows.length = 0)))) := hR.symm
                        have hkk : (c.kind == 10) = true := by simpa using h10
                        have hf1 : (c.kind == 1) = false := by simpa using h1
                        have hf2 : (c.kind == 2) = false := by simpa using h2
                        have hf3 : (c.kind == 3) = false := by simpa using h3
                        have hf4 : (c.kind == 4) = false := by simpa using h4
                        have hf5 : (c.kind == 5) = false := by simpa using h5
                        have hf6 : (c.kind == 6) = false := by simpa using h6
                        have hf7 : (c.kind == 7) = false := by simpa using h7
                        have hf8 : (c.kind == 8) = false := by simpa using h8
                        have hf9 : (c.kind == 9) = false := by simpa using h9
                        clear hR hn h1 h2 h3 h4 h5 h6 h7 h8 h9 h10 h123
                        go_enter Tryz.func80, Tryz.ntmps80
                        go_wp2
                        go_quiet (fail)
                        go_wp2
                        all_goals
                          go_ret
                          refine ⟨ret_bool ?_, below_drewN (below_alloc _ _) _⟩
                          rw [HR.out]
                          clear HR HRR
                          first
                            | rfl
                            | (try simp only [beq_eq_false_iff_ne, beq_iff_eq, ne_eq] at *
                               rw [Bool.eq_iff_iff]
                               simp only [Bool.and_eq_true, decide_eq_true_eq, beq_iff_eq, Bool.false_eq_true, false_iff]
                               omega)
                      · skip
                        rw [if_neg h10] at hR
                        have HR : Hid (R = false) := hR.symm
                        have hf1 : (c.kind == 1) = false := by simpa using h1
                        have hf2 : (c.kind == 2) = false := by simpa using h2
                        have hf3 : (c.kind == 3) = false := by simpa using h3
                        have hf4 : (c.kind == 4) = false := by simpa using h4
                        have hf5 : (c.kind == 5) = false := by simpa using h5
                        have hf6 : (c.kind == 6) = false := by simpa using h6
                        have hf7 : (c.kind == 7) = false := by simpa using h7
                        have hf8 : (c.kind == 8) = false := by simpa using h8
                        have hf9 : (c.kind == 9) = false := by simpa using h9
                        have hf10 : (c.kind == 10) = false := by simpa using h10
                        clear hR hn h1 h2 h3 h4 h5 h6 h7 h8 h9 h10 h123
                        go_enter Tryz.func80, Tryz.ntmps80
                        go_wp2
                        go_quiet (fail)
                        go_wp2
                        all_goals (go_ret; exact ⟨ret_bool HR.out.symm, below_drewN (below_alloc _ _) _⟩)
        · rw [if_pos hn] at hR
          have HR : Hid (R = false) := hR.symm
          have hn0 : (c.n != 0) = true := by simpa using hn
          have hf1 : (c.kind == 1) = false := by simpa using h1
          have hf2 : (c.kind == 2) = false := by simpa using h2
          have hf3 : (c.kind == 3) = false := by simpa using h3
          clear hR hn h1 h2 h3 h123
          go_enter Tryz.func80, Tryz.ntmps80
          go_wp2
          go_quiet (fail)
          go_wp2
          all_goals (go_ret; exact ⟨ret_bool HR.out.symm, below_drewN (below_alloc _ _) _⟩)
end Go.Proofs.YtdjbejlbmaiocabGreatDoor
/-
  WALKS: package model: checkCon, checkGoal, Check.
-/
namespace Go.Proofs.YtdjbejlbmaiocabGreatDoor
open Go.RowKit

set_option maxHeartbeats 1600000 in
set_option maxRecDepth 100000 in
theorem con_any (c : MCon) (n : Int) (vv vc vr vl : Value) (w : World) (hk : KArg w vv vc vr vl c) :
    Calls Tryz.prog 43 #[conV vv vc vr vl c, .int .i64 n] w fun e w' => e = .returned (.int .i64 (conE n c)) ∧ Below w.heap.size w w' := by
  have HK : Hid (∀ w' : World, Below w.heap.size w w' → KArg w' vv vc vr vl c) := fun w' h => KArg.below h hk
  obtain ⟨⟨a1, c1, rfl, _, _⟩, ⟨a2, c2, rfl, _, _⟩, ⟨a3, c3, rfl, _, _⟩, ⟨a4, c4, rfl, _, _⟩⟩ := hk
  obtain ⟨R, hR⟩ : ∃ R, conE n c = R := ⟨_, rfl⟩
  rw [hR]
  unfold conE at hR
  unfold conV
  by_cases hlo : 1 ≤ c.kind
  · by_cases hhi : c.kind ≤ 10
    · rw [if_pos ⟨hlo, hhi⟩] at hR
      cases hm : manyB c
      · rw [hm] at hR
        simp only [Bool.false_eq_true, if_false] at hR
        have HM : Hid (manyB c = false) := hm
        have HL : Hid (c.vars.length ≤ 4 ∧ c.consts.length ≤ 8 ∧ c.rows.length ≤ 20 ∧ c.lits.length ≤ 4) := by
          simp only [manyB, Bool.or_eq_false_iff, decide_eq_false_iff_not] at hm
          exact ⟨by omega, by omega, by omega, by omega⟩
        clear hm
        cases hf : formB c
        · rw [hf] at hR
          have HE : Hid (R = 1) := hR.symm
          have HF : Hid (formB c = false) := hf
          clear hf hR
          go_enter Tryz.func43, Tryz.ntmps43
          go_wp2_with fail
          refine (many_any c _ _ _ _ _ (HK.out _ (below_alloc _ _))).mono ?_
          rintro e w1 ⟨rfl, hb⟩
          rw [HM.out]
          have HB1 : Hid (Below w.heap.size w w1) := (below_alloc _ _).trans (hb.mono (by simp))
          have HS1 : Hid (w.heap.size + 1 ≤ w1.heap.size) := show w.heap.size + 1 ≤ w1.heap.size by simpa using hb.size
          have d10 : w1.cell? ⟨w.heap.size, 0, none⟩ = some (.int .i64 c.kind) := (hb.cell (by simp)).trans (by simp)
          have d11 : w1.cell? ⟨w.heap.size, 1, none⟩ = some (.slice a1 c.vars.length c1) := (hb.cell (by simp)).trans (by simp)
          have d12 : w1.cell? ⟨w.heap.size, 2, none⟩ = some (.slice a2 c.consts.length c2) := (hb.cell (by simp)).trans (by simp)
          have d13 : w1.cell? ⟨w.heap.size, 3, none⟩ = some (.int .i64 c.n) := (hb.cell (by simp)).trans (by simp)
          have d14 : w1.cell? ⟨w.heap.size, 4, none⟩ = some (.slice a3 c.rows.length c3) := (hb.cell (by simp)).trans (by simp)
          have d15 : w1.cell? ⟨w.heap.size, 5, none⟩ = some (.slice a4 c.lits.length c4) := (hb.cell (by simp)).trans (by simp)
          clear hb
          go_wp2_with fail
          refine (form_any c _ _ _ _ _ (HK.out _ HB1.out) HL.out.1 HL.out.2.1 HL.out.2.2.1 HL.out.2.2.2).mono ?_
          rintro e w2 ⟨rfl, hb⟩
          rw [HF.out]
          have HB2 : Hid (Below w.heap.size w w2) := HB1.out.trans (hb.mono HB1.out.size)
          have HS2 : Hid (w.heap.size + 1 ≤ w2.heap.size) := Nat.le_trans HS1.out hb.size
          have d20 := (hb.cell (p := ⟨w.heap.size, 0, none⟩) (by have := HS1.out; simp only; omega)).trans d10
          have d21 := (hb.cell (p := ⟨w.heap.size, 1, none⟩) (by have := HS1.out; simp only; omega)).trans d11
          have d22 := (hb.cell (p := ⟨w.heap.size, 2, none⟩) (by have := HS1.out; simp only; omega)).trans d12
          have d23 := (hb.cell (p := ⟨w.heap.size, 3, none⟩) (by have := HS1.out; simp only; omega)).trans d13
          have d24 := (hb.cell (p := ⟨w.heap.size, 4, none⟩) (by have := HS1.out; simp only; omega)).trans d14
          have d25 := (hb.cell (p := ⟨w.heap.size, 5, none⟩) (by have := HS1.out; simp only; omega)).trans d15
          clear hb d10 d11 d12 d13 d14 d15
          go_wp2
          go_ret
          exact ⟨ret_int HE.out.symm, HB2.out⟩
        · rw [hf] at hR
          simp only [if_true] at hR
          have HF : Hid (formB c = true) := hf
          clear hf
          cases hv : varsB c n
          · rw [hv] at hR
            have HE : Hid (R = 5) := hR.symm
            have HV : Hid (varsB c n = false) := hv
            clear hv hR
            go_enter Tryz.func43, Tryz.ntmps43
            go_wp2_with fail
            refine (many_any c _ _ _ _ _ (HK.out _ (below_alloc _ _))).mono ?_
            rintro e w1 ⟨rfl, hb⟩
            rw [HM.out]
            have HB1 : Hid (Below w.heap.size w w1) := (below_alloc _ _).trans (hb.mono (by simp))
            have HS1 : Hid (w.heap.size + 1 ≤ w1.heap.size) := show w.heap.size + 1 ≤ w1.heap.size by simpa using hb.size
            have d10 : w1.cell? ⟨w.heap.size, 0, none⟩ = some (.int .i64 c.kind) := (hb.cell (by simp)).trans (by simp)
            have d11 : w1.cell? ⟨w.heap.size, 1, none⟩ = some (.slice a1 c.vars.length c1) := (hb.cell (by simp)).trans (by simp)
            have d12 : w1.cell? ⟨w.heap.size, 2, none⟩ = some (.slice a2 c.consts.length c2) := (hb.cell (by simp)).trans (by simp)
            have d13 : w1.cell? ⟨w.heap.size, 3, none⟩ = some (.int .i64 c.n) := (hb.cell (by simp)).trans (by simp)
            have d14 : w1.cell? ⟨w.heap.size, 4, none⟩ = some (.slice a3 c.rows.length c3) := (hb.cell (by simp)).trans (by simp)
            have d15 : w1.cell? ⟨w.heap.size, 5, none⟩ = some (.slice a4 c.lits.length c4) := (hb.cell (by simp)).trans (by simp)
            clear hb
            go_wp2_with fail
            refine (form_any c _ _ _ _ _ (HK.out _ HB1.out) HL.out.1 HL.out.2.1 HL.out.2.2.1 HL.out.2.2.2).mono ?_
            rintro e w2 ⟨rfl, hb⟩
            rw [HF.out]
            have HB2 : Hid (Below w.heap.size w w2) := HB1.out.trans (hb.mono HB1.out.size)
            have HS2 : Hid (w.heap.size + 1 ≤ w2.heap.size) := Nat.le_trans HS1.out hb.size
            have d20 := (hb.cell (p := ⟨w.heap.size, 0, none⟩) (by have := HS1.out; simp only; omega)).trans d10
            have d21 := (hb.cell (p := ⟨w.heap.size, 1, none⟩) (by have := HS1.out; simp only; omega)).trans d11
            have d22 := (hb.cell (p := ⟨w.heap.size, 2, none⟩) (by have := HS1.out; simp only; omega)).trans d12
            have d23 := (hb.cell (p := ⟨w.heap.size, 3, none⟩) (by have := HS1.out; simp only; omega)).trans d13
            have d24 := (hb.cell (p := ⟨w.heap.size, 4, none⟩) (by have := HS1.out; simp only; omega)).trans d14
            have d25 := (hb.cell (p := ⟨w.heap.size, 5, none⟩) (by have := HS1.out; simp only; omega)).trans d15
            clear hb d10 d11 d12 d13 d14 d15
            go_wp2_with fail
            refine (vars_any c n _ _ _ _ _ (HK.out _ HB2.out)).mono ?_
            rintro e w3 ⟨rfl, hb⟩
            rw [HV.out]
            have HB3 : Hid (Below w.heap.size w w3) := HB2.out.trans (hb.mono HB2.out.size)
            have HS3 : Hid (w.heap.size + 1 ≤ w3.heap.size) := Nat.le_trans HS2.out hb.size
            have d30 := (hb.cell (p := ⟨w.heap.size, 0, none⟩) (by have := HS2.out; simp only; omega)).trans d20
            have d31 := (hb.cell (p := ⟨w.heap.size, 1, none⟩) (by have := HS2.out; simp only; omega)).trans d21
            have d32 := (hb.cell (p := ⟨w.heap.size, 2, none⟩) (by have := HS2.out; simp only; omega)).trans d22
            have d33 := (hb.cell (p := ⟨w.heap.size, 3, none⟩) (by have := HS2.out; simp only; omega)).trans d23
            have d34 := (hb.cell (p := ⟨w.heap.size, 4, none⟩) (by have := HS2.out; simp only; omega)).trans d24
            have d35 := (hb.cell (p := ⟨w.heap.size, 5, none⟩) (by have := HS2.out; simp only; omega)).trans d25
            clear hb d20 d21 d22 d23 d24 d25
            go_wp2
            go_ret
            exact ⟨ret_int HE.out.symm, HB3.out⟩
          · rw [hv] at hR
            simp only [if_true] at hR
            have HV : Hid (varsB c n = true) := hv
            clear hv
            cases hc : constsB c
            · rw [hc] at hR
              have HE : Hid (R = 3) := hR.symm
              have HC : Hid (constsB c = false) := hc
              clear hc hR
              go_enter Tryz.func43, Tryz.ntmps43
              go_wp2_with fail
              refine (many_any c _ _ _ _ _ (HK.out _ (below_alloc _ _))).mono ?_
              rintro e w1 ⟨rfl, hb⟩
              rw [HM.out]
              have HB1 : Hid (Below w.heap.size w w1) := (below_alloc _ _).trans (hb.mono (by simp))
              have HS1 : Hid (w.heap.size + 1 ≤ w1.heap.size) := show w.heap.size + 1 ≤ w1.heap.size by simpa using hb.size
              have d10 : w1.cell? ⟨w.heap.size, 0, none⟩ = some (.int .i64 c.kind) := (hb.cell (by simp)).trans (by simp)
              have d11 : w1.cell? ⟨w.heap.size, 1, none⟩ = some (.slice a1 c.vars.length c1) := (hb.cell (by simp)).trans (by simp)
              have d12 : w1.cell? ⟨w.heap.size, 2, none⟩ = some (.slice a2 c.consts.length c2) := (hb.cell (by simp)).trans (by simp)
              have d13 : w1.cell? ⟨w.heap.size, 3, none⟩ = some (.int .i64 c.n) := (hb.cell (by simp)).trans (by simp)
              have d14 : w1.cell? ⟨w.heap.size, 4, none⟩ = some (.slice a3 c.rows.length c3) := (hb.cell (by simp)).trans (by simp)
              have d15 : w1.cell? ⟨w.heap.size, 5, none⟩ = some (.slice a4 c.lits.length c4) := (hb.cell (by simp)).trans (by simp)
              clear hb
              go_wp2_with fail
              refine (form_any c _ _ _ _ _ (HK.out _ HB1.out) HL.out.1 HL.out.2.1 HL.out.2.2.1 HL.out.2.2.2).mono ?_
              rintro e w2 ⟨rfl, hb⟩
              rw [HF.out]
              have HB2 : Hid (Below w.heap.size w w2) := HB1.out.trans (hb.mono HB1.out.size)
              have HS2 : Hid (w.heap.size + 1 ≤ w2.heap.size) := Nat.le_trans HS1.out hb.size
              have d20 := (hb.cell (p := ⟨w.heap.size, 0, none⟩) (by have := HS1.out; simp only; omega)).trans d10
              have d21 := (hb.cell (p := ⟨w.heap.size, 1, none⟩) (by have := HS1.out; simp only; omega)).trans d11
              have d22 := (hb.cell (p := ⟨w.heap.size, 2, none⟩) (by have := HS1.out; simp only; omega)).trans d12
              have d23 := (hb.cell (p := ⟨w.heap.size, 3, none⟩) (by have := HS1.out; simp only; omega)).trans d13
              have d24 := (hb.cell (p := ⟨w.heap.size, 4, none⟩) (by have := HS1.out; simp only; omega)).trans d14
              have d25 := (hb.cell (p := ⟨w.heap.size, 5, none⟩) (by have := HS1.out; simp only; omega)).trans d15
              clear hb d10 d11 d12 d13 d14 d15
              go_wp2_with fail
              refine (vars_any c n _ _ _ _ _ (HK.out _ HB2.out)).mono ?_
              rintro e w3 ⟨rfl, hb⟩
              rw [HV.out]
              have HB3 : Hid (Below w.heap.size w w3) := HB2.out.trans (hb.mono HB2.out.size)
              have HS3 : Hid (w.heap.size + 1 ≤ w3.heap.size) := Nat.le_trans HS2.out hb.size
              have d30 := (hb.cell (p := ⟨w.heap.size, 0, none⟩) (by have := HS2.out; simp only; omega)).trans d20
              have d31 := (hb.cell (p := ⟨w.heap.size, 1, none⟩) (by have := HS2.out; simp only; omega)).trans d21
              have d32 := (hb.cell (p := ⟨w.heap.size, 2, none⟩) (by have := HS2.out; simp only; omega)).trans d22
              have d33 := (hb.cell (p := ⟨w.heap.size, 3, none⟩) (by have := HS2.out; simp only; omega)).trans d23
              have d34 := (hb.cell (p := ⟨w.heap.size, 4, none⟩) (by have := HS2.out; simp only; omega)).trans d24
              have d35 := (hb.cell (p := ⟨w.heap.size, 5, none⟩) (by have := HS2.out; simp only; omega)).trans d25
              clear hb d20 d21 d22 d23 d24 d25
              go_wp2_with fail
              refine (hasconsts_any c _ _ _ _ _ (HK.out _ HB3.out)).mono ?_
              rintro e w4 ⟨rfl, hb⟩
              rw [HC.out]
              have HB4 : Hid (Below w.heap.size w w4) := HB3.out.trans (hb.mono HB3.out.size)
              have HS4 : Hid (w.heap.size + 1 ≤ w4.heap.size) := Nat.le_trans HS3.out hb.size
              have d40 := (hb.cell (p := ⟨w.heap.size, 0, none⟩) (by have := HS3.out; simp only; omega)).trans d30
              have d41 := (hb.cell (p := ⟨w.heap.size, 1, none⟩) (by have := HS3.out; simp only; omega)).trans d31
              have d42 := (hb.cell (p := ⟨w.heap.size, 2, none⟩) (by have := HS3.out; simp only; omega)).trans d32
              have d43 := (hb.cell (p := ⟨w.heap.size, 3, none⟩) (by have := HS3.out; simp only; omega)).trans d33
              have d44 := (hb.cell (p := ⟨w.heap.size, 4, none⟩) (by have := HS3.out; simp only; omega)).trans d34
              have d45 := (hb.cell (p := ⟨w.heap.size, 5, none⟩) (by have := HS3.out; simp only; omega)).trans d35
              clear hb d30 d31 d32 d33 d34 d35
              go_wp2
              go_ret
              exact ⟨ret_int HE.out.symm, HB4.out⟩
            · rw [hc] at hR
              simp only [if_true] at hR
              have HE : Hid (R = litsE c.lits) := hR.symm
              have HC : Hid (constsB c = true) := hc
              clear hc hR
              go_enter Tryz.func43, Tryz.ntmps43
              go_wp2_with fail
              refine (many_any c _ _ _ _ _ (HK.out _ (below_alloc _ _))).mono ?_
              rintro e w1 ⟨rfl, hb⟩
              rw [HM.out]
              have HB1 : Hid (Below w.heap.size w w1) := (below_alloc _ _).trans (hb.mono (by simp))
              have HS1 : Hid (w.heap.size + 1 ≤ w1.heap.size) := show w.heap.size + 1 ≤ w1.heap.size by simpa using hb.size
              have d10 : w1.cell? ⟨w.heap.size, 0, none⟩ = some (.int .i64 c.kind) := (hb.cell (by simp)).trans (by simp)
              have d11 : w1.cell? ⟨w.heap.size, 1, none⟩ = some (.slice a1 c.vars.length c1) := (hb.cell (by simp)).trans (by simp)
              have d12 : w1.cell? ⟨w.heap.size, 2, none⟩ = some (.slice a2 c.consts.length c2) := (hb.cell (by simp)).trans (by simp)
              have d13 : w1.cell? ⟨w.heap.size, 3, none⟩ = some (.int .i64 c.n) := (hb.cell (by simp)).trans (by simp)
              have d14 : w1.cell? ⟨w.heap.size, 4, none⟩ = some (.slice a3 c.rows.length c3) := (hb.cell (by simp)).trans (by simp)
              have d15 : w1.cell? ⟨w.heap.size, 5, none⟩ = some (.slice a4 c.lits.length c4) := (hb.cell (by simp)).trans (by simp)
              clear hb
              go_wp2_with fail
              refine (form_any c _ _ _ _ _ (HK.out _ HB1.out) HL.out.1 HL.out.2.1 HL.out.2.2.1 HL.out.2.2.2).mono ?_
              rintro e w2 ⟨rfl, hb⟩
              rw [HF.out]
              have HB2 : Hid (Below w.heap.size w w2) := HB1.out.trans (hb.mono HB1.out.size)
              have HS2 : Hid (w.heap.size + 1 ≤ w2.heap.size) := Nat.le_trans HS1.out hb.size
              have d20 := (hb.cell (p := ⟨w.heap.size, 0, none⟩) (by have := HS1.out; simp only; omega)).trans d10
              have d21 := (hb.cell (p := ⟨w.heap.size, 1, none⟩) (by have := HS1.out; simp only; omega)).trans d11
              have d22 := (hb.cell (p := ⟨w.heap.size, 2, none⟩) (by have := HS1.out; simp only; omega)).trans d12
              have d23 := (hb.cell (p := ⟨w.heap.size, 3, none⟩) (by have := HS1.out; simp only; omega)).trans d13
              have d24 := (hb.cell (p := ⟨w.heap.size, 4, none⟩) (by have := HS1.out; simp only; omega)).trans d14
              have d25 := (hb.cell (p := ⟨w.heap.size, 5, none⟩) (by have := HS1.out; simp only; omega)).trans d15
              clear hb d10 d11 d12 d13 d14 d15
              go_wp2_with fail
              refine (vars_any c n _ _ _ _ _ (HK.out _ HB2.out)).mono ?_
              rintro e w3 ⟨rfl, hb⟩
              rw [HV.out]
              have HB3 : Hid (Below w.heap.size w w3) := HB2.out.trans (hb.mono HB2.out.size)
              have HS3 : Hid (w.heap.size + 1 ≤ w3.heap.size) := Nat.le_trans HS2.out hb.size
              have d30 := (hb.cell (p := ⟨w.heap.size, 0, none⟩) (by have := HS2.out; simp only; omega)).trans d20
              have d31 := (hb.cell (p := ⟨w.heap.size, 1, none⟩) (by have := HS2.out; simp only; omega)).trans d21
              have d32 := (hb.cell (p := ⟨w.heap.size, 2, none⟩) (by have := HS2.out; simp only; omega)).trans d22
              have d33 := (hb.cell (p := ⟨w.heap.size, 3, none⟩) (by have := HS2.out; simp only; omega)).trans d23
              have d34 := (hb.cell (p := ⟨w.heap.size, 4, none⟩) (by have := HS2.out; simp only; omega)).trans d24
              have d35 := (hb.cell (p := ⟨w.heap.size, 5, none⟩) (by have := HS2.out; simp only; omega)).trans d25
              clear hb d20 d21 d22 d23 d24 d25
              go_wp2_with fail
              refine (hasconsts_any c _ _ _ _ _ (HK.out _ HB3.out)).mono ?_
              rintro e w4 ⟨rfl, hb⟩
              rw [HC.out]
              have HB4 : Hid (Below w.heap.size w w4) := HB3.out.trans (hb.mono HB3.out.size)
              have HS4 : Hid (w.heap.size + 1 ≤ w4.heap.size) := Nat.le_trans HS3.out hb.size
              have d40 := (hb.cell (p := ⟨w.heap.size, 0, none⟩) (by have := HS3.out; simp only; omega)).trans d30
              have d41 := (hb.cell (p := ⟨w.heap.size, 1, none⟩) (by have := HS3.out; simp only; omega)).trans d31
              have d42 := (hb.cell (p := ⟨w.heap.size, 2, none⟩) (by have := HS3.out; simp only; omega)).trans d32
              have d43 := (hb.cell (p := ⟨w.heap.size, 3, none⟩) (by have := HS3.out; simp only; omega)).trans d33
              have d44 := (hb.cell (p := ⟨w.heap.size, 4, none⟩) (by have := HS3.out; simp only; omega)).trans d34
              have d45 := (hb.cell (p := ⟨w.heap.size, 5, none⟩) (by have := HS3.out; simp only; omega)).trans d35
              clear hb d30 d31 d32 d33 d34 d35
              go_wp2_with fail
              refine (lits_any c.lits _ _ (HK.out _ HB4.out).2.2.2).mono ?_
              rintro e w5 ⟨rfl, hb⟩
              have HB5 : Hid (Below w.heap.size w w5) := HB4.out.trans (hb.mono HB4.out.size)
              go_wp2
              go_ret
              exact ⟨ret_int HE.out.symm, HB5.out⟩
      · rw [hm] at hR
        have HE : Hid (R = 2) := hR.symm
        have HM : Hid (manyB c = true) := hm
        clear hm hR
        go_enter Tryz.func43, Tryz.ntmps43
        go_wp2_with fail
        refine (many_any c _ _ _ _ _ (HK.out _ (below_alloc _ _))).mono ?_
        rintro e w1 ⟨rfl, hb⟩
        rw [HM.out]
        have HB1 : Hid (Below w.heap.size w w1) := (below_alloc _ _).trans (hb.mono (by simp))
        have HS1 : Hid (w.heap.size + 1 ≤ w1.heap.size) := show w.heap.size + 1 ≤ w1.heap.size by simpa using hb.size
        have d10 : w1.cell? ⟨w.heap.size, 0, none⟩ = some (.int .i64 c.kind) := (hb.cell (by simp)).trans (by simp)
        have d11 : w1.cell? ⟨w.heap.size, 1, none⟩ = some (.slice a1 c.vars.length c1) := (hb.cell (by simp)).trans (by simp)
        have d12 : w1.cell? ⟨w.heap.size, 2, none⟩ = some (.slice a2 c.consts.length c2) := (hb.cell (by simp)).trans (by simp)
        have d13 : w1.cell? ⟨w.heap.size, 3, none⟩ = some (.int .i64 c.n) := (hb.cell (by simp)).trans (by simp)
        have d14 : w1.cell? ⟨w.heap.size, 4, none⟩ = some (.slice a3 c.rows.length c3) := (hb.cell (by simp)).trans (by simp)
        have d15 : w1.cell? ⟨w.heap.size, 5, none⟩ = some (.slice a4 c.lits.length c4) := (hb.cell (by simp)).trans (by simp)
        clear hb
        go_wp2
        go_ret
        exact ⟨ret_int HE.out.symm, HB1.out⟩
    · rw [if_neg (fun h => hhi h.2)] at hR
      have HE : Hid (R = 7) := hR.symm
      clear hR
      go_enter Tryz.func43, Tryz.ntmps43
      go_wp2
      go_ret
      exact ⟨ret_int HE.out.symm, below_alloc _ _⟩
  · rw [if_neg (fun h => hlo h.1)] at hR
    have HE : Hid (R = 7) := hR.symm
    clear hR
    go_enter Tryz.func43, Tryz.ntmps43
    go_wp2
    go_ret
    exact ⟨ret_int HE.out.symm, below_alloc _ _⟩

set_option maxHeartbeats 800000 in
set_option maxRecDepth 100000 in
theorem goal_any (m : Mod) (vs cs : Value) (w : World) (hm : MArg w vs cs m) :
    Calls Tryz.prog 44 #[modV vs cs m] w fun e w' => e = .returned (.int .i64 (goalE m)) ∧ Below w.heap.size w w' := by
  obtain ⟨⟨a1, c1, rfl, _, _⟩, ⟨a2, c2, rfl, _, _⟩⟩ := hm
  obtain ⟨R, hR⟩ : ∃ R, goalE m = R := ⟨_, rfl⟩
  rw [hR]
  unfold goalE at hR
  unfold modV
  by_cases h0 : m.goal = 0
  · rw [if_pos h0] at hR
    have g0 : (m.goal == 0) = true := by simpa using h0
    by_cases hv : m.var = 0
    · rw [if_pos hv] at hR
      have HE : Hid (R = 0) := hR.symm
      have v0 : (m.var != 0) = false := by simpa using hv
      clear hR h0 hv
      go_enter Tryz.func44, Tryz.ntmps44
      go_wp2
      go_ret
      exact ⟨ret_int HE.out.symm, below_alloc _ _⟩
    · rw [if_neg hv] at hR
      have HE : Hid (R = 1) := hR.symm
      have v0 : (m.var != 0) = true := by simpa using hv
      clear hR h0 hv
      go_enter Tryz.func44, Tryz.ntmps44
      go_wp2
      go_ret
      exact ⟨ret_int HE.out.symm, below_alloc _ _⟩
  · rw [if_neg h0] at hR
    have g0 : (m.goal == 0) = false := by simpa using h0
    by_cases h12 : m.goal = 1 ∨ m.goal = 2
    · rw [if_pos h12] at hR
      cases hv : isVarB m.var m.vars.length
      · rw [hv] at hR
        have HE : Hid (R = 5) := hR.symm
        have HV : Hid (isVarB m.var m.vars.length = false) := hv
        clear hR h0 hv
        rcases h12 with h | h
        · have g1 : (m.goal == 1) = true := by simpa using h
          clear h
          go_enter Tryz.func44, Tryz.ntmps44
          go_wp2_with fail
          refine (isvar_any _ _ _).mono ?_
          rintro e w2 ⟨rfl, hw2⟩
          rw [HV.out, hw2]
          clear hw2
          go_wp2
          go_ret
          exact ⟨ret_int HE.out.symm, below_alloc _ _⟩
        · have g1 : (m.goal == 1) = false := by simp [h]
          have g2 : (m.goal == 2) = true := by simpa using h
          clear h
          go_enter Tryz.func44, Tryz.ntmps44
          go_wp2_with fail
          refine (isvar_any _ _ _).mono ?_
          rintro e w2 ⟨rfl, hw2⟩
          rw [HV.out, hw2]
          clear hw2
          go_wp2
          go_ret
          exact ⟨ret_int HE.out.symm, below_alloc _ _⟩
      · rw [hv] at hR
        have HE : Hid (R = 0) := hR.symm
        have HV : Hid (isVarB m.var m.vars.length = true) := hv
        clear hR h0 hv
        rcases h12 with h | h
        · have g1 : (m.goal == 1) = true := by simpa using h
          clear h
          go_enter Tryz.func44, Tryz.ntmps44
          go_wp2_with fail
          refine (isvar_any _ _ _).mono ?_
          rintro e w2 ⟨rfl, hw2⟩
          rw [HV.out, hw2]
          clear hw2
          go_wp2
          go_ret
          exact ⟨ret_int HE.out.symm, below_alloc _ _⟩
        · have g1 : (m.goal == 1) = false := by simp [h]
          have g2 : (m.goal == 2) = true := by simpa using h
          clear h
          go_enter Tryz.func44, Tryz.ntmps44
          go_wp2_with fail
          refine (isvar_any _ _ _).mono ?_
          rintro e w2 ⟨rfl, hw2⟩
          rw [HV.out, hw2]
          clear hw2
          go_wp2
          go_ret
          exact ⟨ret_int HE.out.symm, below_alloc _ _⟩
    · rw [if_neg h12] at hR
      have HE : Hid (R = 7) := hR.symm
      have g1 : (m.goal == 1) = false := by simpa using (fun h => h12 (Or.inl h))
      have g2 : (m.goal == 2) = false := by simpa using (fun h => h12 (Or.inr h))
      clear hR h0 h12
      go_enter Tryz.func44, Tryz.ntmps44
      go_wp2
      go_ret
      exact ⟨ret_int HE.out.symm, below_alloc _ _⟩
end Go.Proofs.YtdjbejlbmaiocabGreatDoor
/-
  WALK: model.Check: it answers what 'checkM' says.
-/
namespace Go.Proofs.YtdjbejlbmaiocabGreatDoor
open Go.RowKit

def varL (m : Mod) : List Int := (List.range m.vars.length).map fun i => varE (m.vars.take i) (m.vars.getD i ⟨ByteArray.empty, 0, 0⟩)
theorem varL_get (m : Mod) (k : Nat) (t : MVar) (h : m.vars[k]? = some t) : (varL m)[k]? = some (varE (m.vars.take k) t) := by
  have hk : k < m.vars.length := (List.getElem?_eq_some_iff.1 h).1
  unfold varL
  rw [List.getElem?_map, List.getElem?_range hk]
  simp [List.getD, h]
theorem varL_len (m : Mod) : (varL m).length = m.vars.length := by simp [varL]
def conL (m : Mod) : List Int := m.cons.map (conE m.vars.length)
theorem conL_get (m : Mod) (k : Nat) (t : MCon) (h : m.cons[k]? = some t) : (conL m)[k]? = some (conE m.vars.length t) := by simp [conL, h]

set_option maxHeartbeats 1600000 in
set_option maxRecDepth 100000 in
theorem check_model (m : Mod) (vs cs : Value) (w : World) (hm : MArg w vs cs m) :
    Calls Tryz.prog 15 #[modV vs cs m] w fun e w' => e = .returned (.int .i64 (checkM m)) ∧ Below w.heap.size w w' := by
  have HMA : Hid (∀ w' : World, Below w.heap.size w w' → MArg w' vs cs m) := fun w' h => MArg.below h hm
  obtain ⟨⟨a1, c1, rfl, hl1, hr1⟩, ⟨a2, c2, rfl, hl2, hr2⟩⟩ := hm
  obtain ⟨R, hR⟩ : ∃ R, checkM m = R := ⟨_, rfl⟩
  rw [hR]
  unfold maxLen at hl1 hl2
  obtain ⟨hl11, hl1⟩ := hl1
  obtain ⟨hl21, hl2⟩ := hl2
  clear hr1 hr2
  unfold modV
  by_cases h0 : m.vars.length = 0
  · have HE : Hid (R = 1) := by rw [← hR]; unfold checkM; rw [if_pos h0]; rfl
    have g0 : ((m.vars.length : Int) == 0) = true := by simp [h0]
    clear hR h0
    go_enter Tryz.func15, Tryz.ntmps15
    go_wp2
    go_ret
    exact ⟨ret_int HE.out.symm, below_alloc _ _⟩
  · have g0 : ((m.vars.length : Int) == 0) = false := by simpa using h0
    by_cases h6 : 6 < m.vars.length
    · have HE : Hid (R = 2) := by rw [← hR]; unfold checkM; rw [if_neg h0, if_pos (Or.inl h6)]; rfl
      clear hR h0
      go_enter Tryz.func15, Tryz.ntmps15
      go_wp2
      go_ret
      exact ⟨ret_int HE.out.symm, below_alloc _ _⟩
    · by_cases h8 : 8 < m.cons.length
      · have HE : Hid (R = 2) := by rw [← hR]; unfold checkM; rw [if_neg h0, if_pos (Or.inr h8)]; rfl
        clear hR h0
        go_enter Tryz.func15, Tryz.ntmps15
        go_wp2
        go_ret
        exact ⟨ret_int HE.out.symm, below_alloc _ _⟩
      · have HE : Hid (R = if firstE (varL m) = 0 then (if firstE (conL m) = 0 then goalE m else firstE (conL m)) else firstE (varL m)) := by
          rw [← hR]; unfold checkM; rw [if_neg h0, if_neg (by omega)]; rfl
        clear hR h0
        go_enter Tryz.func15, Tryz.ntmps15
        go_wp2
        obtain ⟨w0, hw0⟩ : ∃ w0 : World, w0 = w.alloc (.cells #[.slice a1 m.vars.length c1, .slice a2 m.cons.length c2, .int .i64 m.goal, .int .i64 m.var] 25) := ⟨_, rfl⟩
        rw [← hw0]
        have HB0 : Hid (Below w.heap.size w w0) := by rw [hw0]; exact below_alloc _ _
        have HZ0 : Hid (w0.heap.size = w.heap.size + 1) := by show _ = _; rw [hw0]; simp
        have HD : Hid (w0.cell? ⟨w.heap.size, 0, none⟩ = some (.slice a1 m.vars.length c1) ∧ w0.cell? ⟨w.heap.size, 1, none⟩ = some (.slice a2 m.cons.length c2) ∧ w0.cell? ⟨w.heap.size, 2, none⟩ = some (.int .i64 m.goal) ∧ w0.cell? ⟨w.heap.size, 3, none⟩ = some (.int .i64 m.var)) := by
          rw [hw0]; exact ⟨by simp, by simp, by simp, by simp⟩
        clear hw0
        go_loopw [25] (fun i wr => ∃ k : Nat, k ≤ m.vars.length ∧ i = .int .i64 k ∧ Hid (firstE ((varL m).take k) = 0) ∧ Below w0.heap.size w0 wr) (fun i _ => m.vars.length - (intOf i).toNat)
        case atStart => exact ⟨0, by omega, rfl, rfl, Below.refl _ _⟩
        case round =>
          obtain ⟨k, hk, rfl, hno, hbw⟩ := hrel
          have hlt0 : w.heap.size < w0.heap.size := by rw [HZ0.out]; omega
          have d0 := (hbw.cell (p := ⟨w.heap.size, 0, none⟩) hlt0).trans HD.out.1
          have d1 := (hbw.cell (p := ⟨w.heap.size, 1, none⟩) hlt0).trans HD.out.2.1
          have d2 := (hbw.cell (p := ⟨w.heap.size, 2, none⟩) hlt0).trans HD.out.2.2.1
          have d3 := (hbw.cell (p := ⟨w.heap.size, 3, none⟩) hlt0).trans HD.out.2.2.2
          have HBW : Hid (Below w.heap.size w wr) := HB0.out.trans (hbw.mono (by omega))
          by_cases hlt : k < m.vars.length
          · obtain ⟨t, ht⟩ : ∃ t, m.vars[k]? = some t := ⟨m.vars[k], by simp [hlt]⟩
            have HG : Hid ((varL m)[k]? = some (varE (m.vars.take k) t)) := varL_get m k t ht
            have HT : Hid (m.vars[k]? = some t) := ht
            clear ht
            go_wp2_with fail
            refine (var_check m.vars _ k t _ (HMA.out _ HBW.out).1 HT.out).mono ?_
            rintro e w1 ⟨rfl, hb1⟩
            obtain ⟨er, her⟩ : ∃ er, varE (m.vars.take k) t = er := ⟨_, rfl⟩
            have HG2 : Hid ((varL m)[k]? = some er) := by rw [← her]; exact HG.out
            rw [her]
            clear her
            have hbt : Below w0.heap.size w0 w1 := hbw.trans (hb1.mono hbw.size)
            by_cases he : er = 0
            · subst he
              have HN : Hid (firstE ((varL m).take (k + 1)) = 0) := firstE_step _ k hno.out HG2.out
              clear hb1
              go_wp2
              go_roundw
              case rel => exact ⟨k + 1, by omega, by go_num, HN, hbt⟩
              case measure => simp [intOf]; omega
            · have HN : Hid (R = er) := by
                have hf := firstE_hit (varL m) k er hno.out HG2.out he
                rw [HE.out, hf, if_neg he]; rfl
              have he2 : (er != 0) = true := by simpa using he
              clear hb1 he
              go_wp2
              go_ret
              exact ⟨ret_int HN.out.symm, HB0.out.trans (hbt.mono (by omega))⟩
          · have HV : Hid (firstE (varL m) = 0) := by
              have := hno.out; rw [List.take_of_length_le (by rw [varL_len]; omega)] at this; exact this
            have HBO : Hid (Below w0.heap.size w0 wr) := hbw
            obtain ⟨wo, rfl⟩ : ∃ wo : World, wo = wr := ⟨_, rfl⟩
            go_wp2
            clear hk hno hbw hlt d0 d1 d2 d3
            go_loopw [39] (fun i wr => ∃ k : Nat, k ≤ m.cons.length ∧ i = .int .i64 k ∧ Hid (firstE ((conL m).take k) = 0) ∧ Below w0.heap.size w0 wr) (fun i _ => m.cons.length - (intOf i).toNat)
            case atStart => exact ⟨0, by omega, rfl, rfl, HBO.out⟩
            case round =>
              obtain ⟨k, hk, rfl, hno, hbw⟩ := hrel
              have d0 := (hbw.cell (p := ⟨w.heap.size, 0, none⟩) hlt0).trans HD.out.1
              have d1 := (hbw.cell (p := ⟨w.heap.size, 1, none⟩) hlt0).trans HD.out.2.1
              have d2 := (hbw.cell (p := ⟨w.heap.size, 2, none⟩) hlt0).trans HD.out.2.2.1
              have d3 := (hbw.cell (p := ⟨w.heap.size, 3, none⟩) hlt0).trans HD.out.2.2.2
              have HB2 : Hid (Below w.heap.size w wr) := HB0.out.trans (hbw.mono (by omega))
              by_cases hlt : k < m.cons.length
              · obtain ⟨t, ht⟩ : ∃ t, m.cons[k]? = some t := ⟨m.cons[k], by simp [hlt]⟩
                have HG : Hid ((conL m)[k]? = some (conE m.vars.length t)) := conL_get m k t ht
                obtain ⟨a2', c2', hva, _, hrc⟩ := (HMA.out _ HB2.out).2
                obtain ⟨b, off, vv, vc, vr, vl, ha, hb, e0, e1, e2, e3, e4, e5, hka⟩ := hrc k t ht
                have ha2 : a2 = some ⟨b, off, none⟩ := by cases hva; exact ha
                subst ha2
                have HKA : Hid (KArg wr vv vc vr vl t) := hka
                obtain ⟨⟨q1, r1, rfl, _, _⟩, ⟨q2, r2, rfl, _, _⟩, ⟨q3, r3, rfl, _, _⟩, ⟨q4, r4, rfl, _, _⟩⟩ := hka
                have hsz := hbw.size
                have hlw : w.heap.size < wr.heap.size := by omega
                clear ht hva hrc ha
                go_wp2_with fail
                refine (con_any t _ _ _ _ _ _ (KArg.below (below_alloc _ _) HKA.out)).mono ?_
                rintro e w1 ⟨rfl, hb1⟩
                obtain ⟨er, her⟩ : ∃ er, conE m.vars.length t = er := ⟨_, rfl⟩
                have HG2 : Hid ((conL m)[k]? = some er) := by rw [← her]; exact HG.out
                rw [her]
                clear her
                have hbt : Below w0.heap.size w0 w1 := (hbw.alloc hsz _).trans (hb1.mono (by simp; omega))
                by_cases he : er = 0
                · subst he
                  have HN : Hid (firstE ((conL m).take (k + 1)) = 0) := firstE_step _ k hno.out HG2.out
                  clear hb1
                  go_wp2
                  go_roundw
                  case rel => exact ⟨k + 1, by omega, by go_num, HN, hbt⟩
                  case measure => simp [intOf]; omega
                · have HN : Hid (R = er) := by
                    have hf := firstE_hit (conL m) k er hno.out HG2.out he
                    rw [HE.out, HV.out, if_pos rfl, hf, if_neg he]; rfl
                  have he2 : (er != 0) = true := by simpa using he
                  clear hb1 he
                  go_wp2
                  go_ret
                  exact ⟨ret_int HN.out.symm, HB0.out.trans (hbt.mono (by omega))⟩
              · have HN : Hid (R = goalE m) := by
                  have hc0 : firstE (conL m) = 0 := by have := hno.out; rw [List.take_of_length_le (by simp [conL]; omega)] at this; exact this
                  rw [HE.out, HV.out, if_pos rfl, hc0, if_pos rfl]; rfl
                go_wp2_with fail
                refine (goal_any m _ _ _ (HMA.out _ HB2.out)).mono ?_
                rintro e w3 ⟨rfl, hb3⟩
                go_wp2
                go_ret
                exact ⟨ret_int HN.out.symm, HB2.out.trans (hb3.mono HB2.out.size)⟩
end Go.Proofs.YtdjbejlbmaiocabGreatDoor
/-
  WALKS: package text: the reader: skip, isName, newName, oneOf.
-/
namespace Go.Proofs.YtdjbejlbmaiocabGreatDoor
open Go.RowKit

/-- No text is the empty one. -/
def solid (s : ByteArray) : Prop := (ByteArray.empty.toList == s.toList) = false
theorem head_some (en : Int) (l : List Tok) (s : ByteArray) (hs : solid s) (h : ((headT en l).text.toList == s.toList) = true) : l ≠ [] := by
  intro hl
  subst hl
  have h2 : (ByteArray.empty.toList == s.toList) = true := h
  rw [hs] at h2
  cases h2
theorem PostR.fr {α : Type} {p : PR α} {G : α → Value → World → Prop} {N R M : Nat} {en : Int} {X : Nat → Prop} {w0 w w' : World} {e : Ending} (h0 : Fr X w0 w) (h : PostR p G N R M en X w e w') : PostR p G N R M en X w0 e w' := by
  unfold PostR at *
  cases p with
  | ok a r => obtain ⟨v, h1, h2, h3, h4⟩ := h; exact ⟨v, h1, h2, h3, h0.trans h4⟩
  | bad x er => exact ⟨h.1, h0.trans h.2⟩

set_option maxHeartbeats 800000 in
set_option maxRecDepth 100000 in
theorem rskip_any (N R M : Nat) (en : Int) (s : ByteArray) (hs : solid s) (w : World) (l : List Tok) (h : Rd N R M en w l) :
    Calls Tryz.prog 95 #[.pointer (some ⟨R, 0, none⟩), .string s] w (PostR (skipP en s l) (fun _ v _ => v = .tuple #[]) N R M en (fun k => k = R) w) := by
  have hf2 := tokF2 (headT en l)
  have HB : Hid (Rd N R M en w l) := h
  have HS : Hid (solid s) := hs
  obtain ⟨B, hB⟩ : ∃ B, ((headT en l).text.toList == s.toList) = B := ⟨_, rfl⟩
  have HBB : Hid (((headT en l).text.toList == s.toList) = B) := hB
  have HP : Hid (skipP en s l = passP en B l) := by show _ = _; unfold skipP; rw [hB]
  rw [HP.out]
  clear hs hB
  go_enter Tryz.func95, Tryz.ntmps95
  go_wp2_with fail
  refine (ahead_any N R M en _ l HB.out).mono ?_
  rintro e w1 ⟨rfl, hb1⟩
  have HR1 : Hid (Rd N R M en w1 l) := HB.out.below hb1
  have HF1 : Hid (Fr (fun k => k = R) w w1) := Fr.below hb1
  unfold tokA
  go_wp2_with fail
  rw [HBB.out]
  refine (pass_any N R M en B w1 l HR1.out (fun hb => head_some en l s HS.out (HBB.out.trans hb))).mono ?_
  intro e w2 hp
  have HP2 : Hid (PostR (passP en B l) (fun t v _ => v = tokA t) N R M en (fun k => k = R) w e w2) := hp.fr HF1.out
  clear hp hb1 h
  cases B
  · obtain ⟨rfl, hfr⟩ := HP2.out
    go_wp2
    exact ⟨rfl, rfl, hfr⟩
  · obtain ⟨v, rfl, rfl, hrd, hfr⟩ := HP2.out
    unfold tokA
    go_wp2
    go_end0
    exact ⟨_, rfl, rfl, hrd, hfr⟩
end Go.Proofs.YtdjbejlbmaiocabGreatDoor
