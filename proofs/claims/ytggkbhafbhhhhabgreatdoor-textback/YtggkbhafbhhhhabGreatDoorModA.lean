/-
  WALKS: package model: names, variables.
-/
import Derived.Test.YtggkbhafbhhhhabGreatDoorModMem
namespace Go.Proofs.YtggkbhafbhhhhabGreatDoor
open Go.RowKit

set_option maxHeartbeats 400000 in
theorem within_any (n most : Int) (h0 : 0 ≤ most) (h1 : most ≤ 1000) (w : World) :
    Calls Tryz.prog 78 #[.int .i64 n, .int .i64 most] w fun e w' => e = .returned (.bool (inB n most)) ∧ w' = w := by
  unfold inB
  go_enter Tryz.func78, Tryz.ntmps78
  go_wp2
  · go_ret; exact ⟨ret_bool (by simp [*]), rfl⟩
  · go_ret; exact ⟨ret_bool (by rw [decide_eq_false (p := -most ≤ n) (by omega)]; rfl), rfl⟩

set_option maxHeartbeats 1000000 in
set_option maxRecDepth 100000 in
theorem word_is (s : ByteArray) (w : World) :
    Calls Tryz.prog 105 #[.string s] w fun e w' => e = .returned (.bool (isWordB s)) ∧ w' = w := by
  go_enter Tryz.func105, Tryz.ntmps105
  go_wp2
  all_goals (go_ret; refine ⟨ret_bool ?_, rfl⟩; simp_all [isWordB])

set_option maxHeartbeats 1000000 in
set_option maxRecDepth 100000 in
theorem name_is (s : ByteArray) (hs : s.size ≤ maxLen) (w : World) :
    Calls Tryz.prog 75 #[.string s] w fun e w' => e = .returned (.bool (isNameB s)) ∧ Below w.heap.size w w' := by
  rcases hR : scanOf s with ⟨ts, pl, er⟩
  have hA : isNameB s = (((er == 0) && ((ts.length == 1) && ((ts.headD ⟨0, 0, ByteArray.empty⟩).kind == 1 && (ts.headD ⟨0, 0, ByteArray.empty⟩).text.toList == s.toList))) && !isWordB s) := by
    unfold isNameB; rw [← alone_iff ⟨1, 0, s⟩]; unfold aloneB; rw [hR]
  have HR : Hid (scanOf s = (ts, pl, er)) := hR
  have HS : Hid (s.size ≤ maxLen) := hs
  clear hR hs
  by_cases her : er = 0
  · subst her
    by_cases hl : ts.length = 1
    · obtain ⟨u, rfl⟩ : ∃ u, ts = [u] := List.length_eq_one_iff.1 hl
      clear hl
      cases hkd : (u.kind == 1)
      · have hA2 : isNameB s = false := by rw [hA]; simp only [List.headD_cons]; rw [hkd]; rfl
        rw [hA2]; clear hA hA2
        go_enter Tryz.func75, Tryz.ntmps75
        go_wp2_with fail
        refine (scan_all s HS.out _).mono ?_
        rintro e w1 ⟨v, rfl, hown, hb1⟩
        rw [HR.out] at hown ⊢
        obtain ⟨g, cap, rfl, _, _, hrow⟩ := own_row hown (by simp)
        obtain ⟨c0, c1, c2⟩ := hrow 0 u rfl
        clear hrow hown
        simp only [Nat.zero_mul, Nat.add_zero, Nat.zero_add] at c0 c1 c2
        go_wp2
        go_ret
        exact ⟨rfl, hb1⟩
      · cases htx : (u.text.toList == s.toList)
        · have hA2 : isNameB s = false := by rw [hA]; simp only [List.headD_cons]; rw [hkd, htx]; rfl
          rw [hA2]; clear hA hA2
          go_enter Tryz.func75, Tryz.ntmps75
          go_wp2_with fail
          refine (scan_all s HS.out _).mono ?_
          rintro e w1 ⟨v, rfl, hown, hb1⟩
          rw [HR.out] at hown ⊢
          obtain ⟨g, cap, rfl, _, _, hrow⟩ := own_row hown (by simp)
          obtain ⟨c0, c1, c2⟩ := hrow 0 u rfl
          clear hrow hown
          simp only [Nat.zero_mul, Nat.add_zero, Nat.zero_add] at c0 c1 c2
          go_wp2
          go_ret
          exact ⟨rfl, hb1⟩
        · have hA2 : isNameB s = !isWordB s := by rw [hA]; simp only [List.headD_cons]; rw [hkd, htx]; rfl
          rw [hA2]; clear hA hA2
          go_enter Tryz.func75, Tryz.ntmps75
          go_wp2_with fail
          refine (scan_all s HS.out _).mono ?_
          rintro e w1 ⟨v, rfl, hown, hb1⟩
          rw [HR.out] at hown ⊢
          obtain ⟨g, cap, rfl, _, _, hrow⟩ := own_row hown (by simp)
          obtain ⟨c0, c1, c2⟩ := hrow 0 u rfl
          clear hrow hown
          simp only [Nat.zero_mul, Nat.add_zero, Nat.zero_add] at c0 c1 c2
          go_wp2_with fail
          refine (word_is _ _).mono ?_
          rintro e w1 ⟨rfl, rfl⟩
          go_wp2
          go_ret
          exact ⟨rfl, hb1⟩
    · have hl2 : ((ts.length : Int) == 1) = false := by simpa using (show ¬ (ts.length : Int) = 1 by omega)
      have hA2 : isNameB s = false := by rw [hA]; rw [show (ts.length == 1) = false by simpa using hl]; rfl
      rw [hA2]; clear hA hA2 hl
      go_enter Tryz.func75, Tryz.ntmps75
      go_wp2_with fail
      refine (scan_all s HS.out _).mono ?_
      rintro e w1 ⟨v, rfl, hown, hb1⟩
      rw [HR.out] at hown ⊢
      obtain ⟨ad, cap, rfl⟩ := own_form hown
      clear hown
      go_wp2
      go_ret
      exact ⟨rfl, hb1⟩
  · have her2 : (er == 0) = false := by simpa using her
    have hA2 : isNameB s = false := by rw [hA, her2]; rfl
    rw [hA2]; clear hA hA2 her
    go_enter Tryz.func75, Tryz.ntmps75
    go_wp2_with fail
    refine (scan_all s HS.out _).mono ?_
    rintro e w1 ⟨v, rfl, hown, hb1⟩
    rw [HR.out] at hown ⊢
    obtain ⟨ad, cap, rfl⟩ := own_form hown
    clear hown
    go_wp2
    go_ret
    exact ⟨rfl, hb1⟩

set_option maxHeartbeats 400000 in
theorem other_is (b : Nat) (u : MVar) (nm : ByteArray) (w : World) (hc : w.cell? ⟨b, 0, none⟩ = some (.string nm)) :
    Calls Tryz.prog 77 #[.agg #[.string u.name, .int .i64 u.lo, .int .i64 u.hi], .pointer (some ⟨b, 0, none⟩)] w fun e w' => e = .returned (.bool (u.name.toList == nm.toList)) ∧ Below w.heap.size w w' := by
  have hb : b < w.heap.size := World.block_lt_of_cell? w _ hc
  go_enter Tryz.func77, Tryz.ntmps77
  go_wp2
  go_ret
  exact ⟨rfl, below_alloc _ _⟩

def twiceB (l : List MVar) (nm : ByteArray) : Bool := l.any fun u => u.name.toList == nm.toList
theorem twice_hit (l : List MVar) (nm : ByteArray) (m : Nat) (t : MVar) (ht : l[m]? = some t) (h : (t.name.toList == nm.toList) = true) : twiceB l nm = true := by
  unfold twiceB; exact List.any_eq_true.2 ⟨t, List.mem_of_getElem? ht, h⟩
theorem twice_miss (l : List MVar) (nm : ByteArray) (m : Nat) (t : MVar) (ht : l[m]? = some t) (h0 : twiceB (l.take m) nm = false) (h : (t.name.toList == nm.toList) = false) : twiceB (l.take (m + 1)) nm = false := by
  unfold twiceB at *; rw [List.take_add_one, ht, List.any_append, h0]; simp [h]

set_option maxHeartbeats 800000 in
set_option maxRecDepth 100000 in
theorem index_vars (l : List MVar) (v : Value) (b : Nat) (nm : ByteArray) (w : World) (hv : VArg w v l) (hc : w.cell? ⟨b, 0, none⟩ = some (.string nm)) :
    Calls Tryz.prog 106 #[v, .func (.func 77) #[] #[.pointer (some ⟨b, 0, none⟩)]] w fun e w' => ∃ z : Int, e = .returned (.int .i64 z) ∧ decide (0 ≤ z) = twiceB l nm ∧ Below w.heap.size w w' := by
  obtain ⟨a, c, rfl, hm, hr⟩ := hv
  have HV : Hid (∀ (i : Nat) (t : MVar), l[i]? = some t → t.name.size ≤ maxLen ∧ ∃ b off, a = some ⟨b, off, none⟩ ∧ b < w.heap.size ∧
    w.cell? ⟨b, off + i * 3, none⟩ = some (.string t.name) ∧ w.cell? ⟨b, off + i * 3 + 1, none⟩ = some (.int .i64 t.lo) ∧ w.cell? ⟨b, off + i * 3 + 2, none⟩ = some (.int .i64 t.hi)) := hr
  have hbs : b < w.heap.size := World.block_lt_of_cell? w _ hc
  have HC : Hid (w.cell? ⟨b, 0, none⟩ = some (.string nm)) := hc
  obtain ⟨tw, htw⟩ : ∃ tw, twiceB l nm = tw := ⟨_, rfl⟩
  rw [htw]
  have HTW : Hid (twiceB l nm = tw) := htw
  clear hr hc htw
  unfold maxLen at hm
  obtain ⟨hm1, hm⟩ := hm
  go_enter Tryz.func106, Tryz.ntmps106
  go_wp2_with fail
  go_loopw [8] (fun i wr => ∃ m : Nat, m ≤ l.length ∧ i = .int .i64 m ∧ Hid (twiceB (l.take m) nm = false) ∧ Below w.heap.size w wr) (fun i _ => l.length - (intOf i).toNat)
  case atStart => exact ⟨0, by omega, rfl, rfl, Below.refl _ _⟩
  case round =>
    obtain ⟨m, hml, rfl, hno, hbw⟩ := hrel
    by_cases hlt : m < l.length
    · obtain ⟨t, ht⟩ : ∃ t, l[m]? = some t := ⟨l[m], by simp [hlt]⟩
      obtain ⟨_, b2, off, ha, hlt2, c0, c1, c2⟩ := HV.out m t ht
      have hc0 := (hbw.cell (p := ⟨b2, off + m * 3, none⟩) hlt2).trans c0
      have hc1 := (hbw.cell (p := ⟨b2, off + m * 3 + 1, none⟩) hlt2).trans c1
      have hc2 := (hbw.cell (p := ⟨b2, off + m * 3 + 2, none⟩) hlt2).trans c2
      have hcb := (hbw.cell (p := ⟨b, 0, none⟩) hbs).trans HC.out
      have HT : Hid (l[m]? = some t) := ht
      subst ha
      clear c0 c1 c2 ht
      cases hq : (t.name.toList == nm.toList)
      · have HNO : Hid (twiceB (l.take (m + 1)) nm = false) := twice_miss l nm m t HT.out hno.out hq
        go_wp2_with fail
        refine (other_is b t nm _ hcb).mono ?_
        rintro e w1 ⟨rfl, hb1⟩
        rw [hq]
        clear hq
        go_wp2
        go_roundw
        case rel => exact ⟨m + 1, by omega, by go_num, HNO, hbw.trans (hb1.mono hbw.size)⟩
        case measure => simp [intOf]; omega
      · have HY : Hid (tw = true) := by rw [← HTW.out]; exact twice_hit l nm m t HT.out hq
        go_wp2_with fail
        refine (other_is b t nm _ hcb).mono ?_
        rintro e w1 ⟨rfl, hb1⟩
        rw [hq]
        clear hq
        go_wp2
        go_ret
        exact ⟨_, rfl, by rw [HY.out]; simp, hbw.trans (hb1.mono hbw.size)⟩
    · have HN : Hid (tw = false) := by
        have hmn : m = l.length := by omega
        have := hno.out; rw [hmn, List.take_length, HTW.out] at this; exact this
      go_wp2
      go_ret
      exact ⟨_, rfl, by rw [HN.out]; rfl, hbw⟩

set_option maxHeartbeats 400000 in
theorem contains_vars (l : List MVar) (v : Value) (b : Nat) (nm : ByteArray) (w : World) (hv : VArg w v l) (hc : w.cell? ⟨b, 0, none⟩ = some (.string nm)) :
    Calls Tryz.prog 76 #[v, .func (.func 77) #[] #[.pointer (some ⟨b, 0, none⟩)]] w fun e w' => e = .returned (.bool (twiceB l nm)) ∧ Below w.heap.size w w' := by
  go_enter Tryz.func76, Tryz.ntmps76
  go_wp2_with fail
  refine (index_vars l v b nm _ hv hc).mono ?_
  rintro e w1 ⟨z, rfl, hz, hb1⟩
  have HZ : Hid (decide (0 ≤ z) = twiceB l nm) := hz
  clear hz
  go_wp2
  go_ret
  exact ⟨ret_bool HZ.out, hb1⟩

theorem VArg.take {w : World} {a : Option Addr} {n c : Nat} {vs : List MVar} (h : VArg w (.slice a n c) vs) (k : Nat) (hk : k ≤ vs.length) : VArg w (.slice a k c) (vs.take k) := by
  obtain ⟨a', c', hv, hm, hr⟩ := h
  cases hv
  refine ⟨a, c, by rw [List.length_take, Nat.min_eq_left hk], ⟨by rw [List.length_take]; omega, hm.2⟩, fun i t ht => ?_⟩
  rw [List.getElem?_take] at ht
  split at ht
  · exact hr i t ht
  · cases ht

set_option maxHeartbeats 1600000 in
set_option maxRecDepth 100000 in
theorem var_check (vs : List MVar) (v : Value) (k : Nat) (t : MVar) (w : World) (hv : VArg w v vs) (ht : vs[k]? = some t) :
    Calls Tryz.prog 42 #[v, .int .i64 k] w fun e w' => e = .returned (.int .i64 (varE (vs.take k) t)) ∧ Below w.heap.size w w' := by
  have hv0 := hv
  obtain ⟨a, c, rfl, hm, hr⟩ := hv
  have hkl : k < vs.length := (List.getElem?_eq_some_iff.1 ht).1
  have HTAKE : Hid (VArg w (.slice a k c) (vs.take k)) := VArg.take hv0 k (by omega)
  obtain ⟨hts, b, off, rfl, hlt, c0, c1, c2⟩ := hr k t ht
  have HTS : Hid (t.name.size ≤ maxLen) := hts
  obtain ⟨R, hR⟩ : ∃ R, varE (vs.take k) t = R := ⟨_, rfl⟩
  rw [hR]
  have hE : R = (if isNameB t.name then (if twiceB (vs.take k) t.name then 6 else if inB t.lo 50 && (inB t.hi 50 && !decide (t.hi < t.lo)) then (if 6 < t.hi - t.lo + 1 then 2 else 0) else 3) else 1) := by rw [← hR]; rfl
  clear hr hv0 hts ht hR
  unfold maxLen at hm
  obtain ⟨hm1, hm⟩ := hm
  cases hn : isNameB t.name
  · have HE : Hid (R = 1) := by rw [hE, hn]; rfl
    have HN : Hid (isNameB t.name = false) := hn
    clear hn hE
    go_enter Tryz.func42, Tryz.ntmps42
    go_wp2_with fail
    refine (name_is _ HTS.out _).mono ?_
    rintro e w1 ⟨rfl, hb1⟩
    rw [HN.out]
    have hB1 : Below w.heap.size w w1 := (below_alloc _ _).trans (hb1.mono (by simp))
    have d0 : w1.cell? ⟨w.heap.size, 0, none⟩ = some (.string t.name) := (hb1.cell (by simp)).trans (by simp)
    have d1 : w1.cell? ⟨w.heap.size, 1, none⟩ = some (.int .i64 t.lo) := (hb1.cell (by simp)).trans (by simp)
    have d2 : w1.cell? ⟨w.heap.size, 2, none⟩ = some (.int .i64 t.hi) := (hb1.cell (by simp)).trans (by simp)
    have hs1 : w.heap.size + 1 ≤ w1.heap.size := by simpa using hb1.size
    clear hb1
    go_wp2
    go_ret
    exact ⟨ret_int HE.out.symm, hB1⟩
  · have HN : Hid (isNameB t.name = true) := hn
    cases htw : twiceB (vs.take k) t.name
    · have HTW : Hid (twiceB (vs.take k) t.name = false) := htw
      cases hlo : inB t.lo 50
      · have HE : Hid (R = 3) := by rw [hE, hn, htw, hlo]; rfl
        have HLO : Hid (inB t.lo 50 = false) := hlo
        clear hn htw hlo hE
        go_enter Tryz.func42, Tryz.ntmps42
        go_wp2_with fail
        refine (name_is _ HTS.out _).mono ?_
        rintro e w1 ⟨rfl, hb1⟩
        rw [HN.out]
        have hB1 : Below w.heap.size w w1 := (below_alloc _ _).trans (hb1.mono (by simp))
        have d0 : w1.cell? ⟨w.heap.size, 0, none⟩ = some (.string t.name) := (hb1.cell (by simp)).trans (by simp)
        have d1 : w1.cell? ⟨w.heap.size, 1, none⟩ = some (.int .i64 t.lo) := (hb1.cell (by simp)).trans (by simp)
        have d2 : w1.cell? ⟨w.heap.size, 2, none⟩ = some (.int .i64 t.hi) := (hb1.cell (by simp)).trans (by simp)
        have hs1 : w.heap.size + 1 ≤ w1.heap.size := by simpa using hb1.size
        clear hb1
        go_wp2_with fail
        refine (contains_vars (vs.take k) _ w.heap.size t.name _ (VArg.below hB1 HTAKE.out) d0).mono ?_
        rintro e w2 ⟨rfl, hb2⟩
        rw [HTW.out]
        have hB2 : Below w.heap.size w w2 := hB1.trans (hb2.mono (by omega))
        have e1 : w2.cell? ⟨w.heap.size, 1, none⟩ = some (.int .i64 t.lo) := (hb2.cell (p := ⟨w.heap.size, 1, none⟩) (by simp only; omega)).trans d1
        have e2 : w2.cell? ⟨w.heap.size, 2, none⟩ = some (.int .i64 t.hi) := (hb2.cell (p := ⟨w.heap.size, 2, none⟩) (by simp only; omega)).trans d2
        clear hb2 d0 d1 d2
        go_wp2_with fail
        refine (within_any _ 50 (by omega) (by omega) _).mono ?_
        rintro e w2 ⟨rfl, rfl⟩
        rw [HLO.out]
        go_wp2
        go_ret
        exact ⟨ret_int HE.out.symm, hB2⟩
      · have HLO : Hid (inB t.lo 50 = true) := hlo
        have hl1 : -50 ≤ t.lo ∧ t.lo ≤ 50 := by simpa [inB] using hlo
        cases hhi : inB t.hi 50
        · have HE : Hid (R = 3) := by rw [hE, hn, htw, hlo, hhi]; rfl
          have HHI : Hid (inB t.hi 50 = false) := hhi
          clear hn htw hlo hhi hE
          go_enter Tryz.func42, Tryz.ntmps42
          go_wp2_with fail
          refine (name_is _ HTS.out _).mono ?_
          rintro e w1 ⟨rfl, hb1⟩
          rw [HN.out]
          have hB1 : Below w.heap.size w w1 := (below_alloc _ _).trans (hb1.mono (by simp))
          have d0 : w1.cell? ⟨w.heap.size, 0, none⟩ = some (.string t.name) := (hb1.cell (by simp)).trans (by simp)
          have d1 : w1.cell? ⟨w.heap.size, 1, none⟩ = some (.int .i64 t.lo) := (hb1.cell (by simp)).trans (by simp)
          have d2 : w1.cell? ⟨w.heap.size, 2, none⟩ = some (.int .i64 t.hi) := (hb1.cell (by simp)).trans (by simp)
          have hs1 : w.heap.size + 1 ≤ w1.heap.size := by simpa using hb1.size
          clear hb1
          go_wp2_with fail
          refine (contains_vars (vs.take k) _ w.heap.size t.name _ (VArg.below hB1 HTAKE.out) d0).mono ?_
          rintro e w2 ⟨rfl, hb2⟩
          rw [HTW.out]
          have hB2 : Below w.heap.size w w2 := hB1.trans (hb2.mono (by omega))
          have e1 : w2.cell? ⟨w.heap.size, 1, none⟩ = some (.int .i64 t.lo) := (hb2.cell (p := ⟨w.heap.size, 1, none⟩) (by simp only; omega)).trans d1
          have e2 : w2.cell? ⟨w.heap.size, 2, none⟩ = some (.int .i64 t.hi) := (hb2.cell (p := ⟨w.heap.size, 2, none⟩) (by simp only; omega)).trans d2
          clear hb2 d0 d1 d2
          go_wp2_with fail
          refine (within_any _ 50 (by omega) (by omega) _).mono ?_
          rintro e w2 ⟨rfl, rfl⟩
          rw [HLO.out]
          go_wp2_with fail
          refine (within_any _ 50 (by omega) (by omega) _).mono ?_
          rintro e w2 ⟨rfl, rfl⟩
          rw [HHI.out]
          go_wp2
          go_ret
          exact ⟨ret_int HE.out.symm, hB2⟩
        · have HHI : Hid (inB t.hi 50 = true) := hhi
          have hh1 : -50 ≤ t.hi ∧ t.hi ≤ 50 := by simpa [inB] using hhi
          by_cases hlh : t.hi < t.lo
          · have HE : Hid (R = 3) := by rw [hE, hn, htw, hlo, hhi, decide_eq_true hlh]; rfl
            clear hn htw hlo hhi hE
            go_enter Tryz.func42, Tryz.ntmps42
            go_wp2_with fail
            refine (name_is _ HTS.out _).mono ?_
            rintro e w1 ⟨rfl, hb1⟩
            rw [HN.out]
            have hB1 : Below w.heap.size w w1 := (below_alloc _ _).trans (hb1.mono (by simp))
            have d0 : w1.cell? ⟨w.heap.size, 0, none⟩ = some (.string t.name) := (hb1.cell (by simp)).trans (by simp)
            have d1 : w1.cell? ⟨w.heap.size, 1, none⟩ = some (.int .i64 t.lo) := (hb1.cell (by simp)).trans (by simp)
            have d2 : w1.cell? ⟨w.heap.size, 2, none⟩ = some (.int .i64 t.hi) := (hb1.cell (by simp)).trans (by simp)
            have hs1 : w.heap.size + 1 ≤ w1.heap.size := by simpa using hb1.size
            clear hb1
            go_wp2_with fail
            refine (contains_vars (vs.take k) _ w.heap.size t.name _ (VArg.below hB1 HTAKE.out) d0).mono ?_
            rintro e w2 ⟨rfl, hb2⟩
            rw [HTW.out]
            have hB2 : Below w.heap.size w w2 := hB1.trans (hb2.mono (by omega))
            have e1 : w2.cell? ⟨w.heap.size, 1, none⟩ = some (.int .i64 t.lo) := (hb2.cell (p := ⟨w.heap.size, 1, none⟩) (by simp only; omega)).trans d1
            have e2 : w2.cell? ⟨w.heap.size, 2, none⟩ = some (.int .i64 t.hi) := (hb2.cell (p := ⟨w.heap.size, 2, none⟩) (by simp only; omega)).trans d2
            clear hb2 d0 d1 d2
            go_wp2_with fail
            refine (within_any _ 50 (by omega) (by omega) _).mono ?_
            rintro e w2 ⟨rfl, rfl⟩
            rw [HLO.out]
            go_wp2_with fail
            refine (within_any _ 50 (by omega) (by omega) _).mono ?_
            rintro e w2 ⟨rfl, rfl⟩
            rw [HHI.out]
            go_wp2
            go_ret
            exact ⟨ret_int HE.out.symm, hB2⟩
          · by_cases h6 : 6 < t.hi - t.lo + 1
            · have HE : Hid (R = 2) := by rw [hE, hn, htw, hlo, hhi, decide_eq_false hlh, if_pos h6]; rfl
              clear hn htw hlo hhi hE
              go_enter Tryz.func42, Tryz.ntmps42
              go_wp2_with fail
              refine (name_is _ HTS.out _).mono ?_
              rintro e w1 ⟨rfl, hb1⟩
              rw [HN.out]
              have hB1 : Below w.heap.size w w1 := (below_alloc _ _).trans (hb1.mono (by simp))
              have d0 : w1.cell? ⟨w.heap.size, 0, none⟩ = some (.string t.name) := (hb1.cell (by simp)).trans (by simp)
              have d1 : w1.cell? ⟨w.heap.size, 1, none⟩ = some (.int .i64 t.lo) := (hb1.cell (by simp)).trans (by simp)
              have d2 : w1.cell? ⟨w.heap.size, 2, none⟩ = some (.int .i64 t.hi) := (hb1.cell (by simp)).trans (by simp)
              have hs1 : w.heap.size + 1 ≤ w1.heap.size := by simpa using hb1.size
              clear hb1
              go_wp2_with fail
              refine (contains_vars (vs.take k) _ w.heap.size t.name _ (VArg.below hB1 HTAKE.out) d0).mono ?_
              rintro e w2 ⟨rfl, hb2⟩
              rw [HTW.out]
              have hB2 : Below w.heap.size w w2 := hB1.trans (hb2.mono (by omega))
              have e1 : w2.cell? ⟨w.heap.size, 1, none⟩ = some (.int .i64 t.lo) := (hb2.cell (p := ⟨w.heap.size, 1, none⟩) (by simp only; omega)).trans d1
              have e2 : w2.cell? ⟨w.heap.size, 2, none⟩ = some (.int .i64 t.hi) := (hb2.cell (p := ⟨w.heap.size, 2, none⟩) (by simp only; omega)).trans d2
              clear hb2 d0 d1 d2
              go_wp2_with fail
              refine (within_any _ 50 (by omega) (by omega) _).mono ?_
              rintro e w2 ⟨rfl, rfl⟩
              rw [HLO.out]
              go_wp2_with fail
              refine (within_any _ 50 (by omega) (by omega) _).mono ?_
              rintro e w2 ⟨rfl, rfl⟩
              rw [HHI.out]
              go_wp2
              go_ret
              exact ⟨ret_int HE.out.symm, hB2⟩
            · have HE : Hid (R = 0) := by rw [hE, hn, htw, hlo, hhi, decide_eq_false hlh, if_neg h6]; rfl
              clear hn htw hlo hhi hE
              go_enter Tryz.func42, Tryz.ntmps42
              go_wp2_with fail
              refine (name_is _ HTS.out _).mono ?_
              rintro e w1 ⟨rfl, hb1⟩
              rw [HN.out]
              have hB1 : Below w.heap.size w w1 := (below_alloc _ _).trans (hb1.mono (by simp))
              have d0 : w1.cell? ⟨w.heap.size, 0, none⟩ = some (.string t.name) := (hb1.cell (by simp)).trans (by simp)
              have d1 : w1.cell? ⟨w.heap.size, 1, none⟩ = some (.int .i64 t.lo) := (hb1.cell (by simp)).trans (by simp)
              have d2 : w1.cell? ⟨w.heap.size, 2, none⟩ = some (.int .i64 t.hi) := (hb1.cell (by simp)).trans (by simp)
              have hs1 : w.heap.size + 1 ≤ w1.heap.size := by simpa using hb1.size
              clear hb1
              go_wp2_with fail
              refine (contains_vars (vs.take k) _ w.heap.size t.name _ (VArg.below hB1 HTAKE.out) d0).mono ?_
              rintro e w2 ⟨rfl, hb2⟩
              rw [HTW.out]
              have hB2 : Below w.heap.size w w2 := hB1.trans (hb2.mono (by omega))
              have e1 : w2.cell? ⟨w.heap.size, 1, none⟩ = some (.int .i64 t.lo) := (hb2.cell (p := ⟨w.heap.size, 1, none⟩) (by simp only; omega)).trans d1
              have e2 : w2.cell? ⟨w.heap.size, 2, none⟩ = some (.int .i64 t.hi) := (hb2.cell (p := ⟨w.heap.size, 2, none⟩) (by simp only; omega)).trans d2
              clear hb2 d0 d1 d2
              go_wp2_with fail
              refine (within_any _ 50 (by omega) (by omega) _).mono ?_
              rintro e w2 ⟨rfl, rfl⟩
              rw [HLO.out]
              go_wp2_with fail
              refine (within_any _ 50 (by omega) (by omega) _).mono ?_
              rintro e w2 ⟨rfl, rfl⟩
              rw [HHI.out]
              go_wp2
              go_ret
              exact ⟨ret_int HE.out.symm, hB2⟩
    · have HE : Hid (R = 6) := by rw [hE, hn, htw]; rfl
      have HTW : Hid (twiceB (vs.take k) t.name = true) := htw
      clear hn htw hE
      go_enter Tryz.func42, Tryz.ntmps42
      go_wp2_with fail
      refine (name_is _ HTS.out _).mono ?_
      rintro e w1 ⟨rfl, hb1⟩
      rw [HN.out]
      have hB1 : Below w.heap.size w w1 := (below_alloc _ _).trans (hb1.mono (by simp))
      have d0 : w1.cell? ⟨w.heap.size, 0, none⟩ = some (.string t.name) := (hb1.cell (by simp)).trans (by simp)
      have d1 : w1.cell? ⟨w.heap.size, 1, none⟩ = some (.int .i64 t.lo) := (hb1.cell (by simp)).trans (by simp)
      have d2 : w1.cell? ⟨w.heap.size, 2, none⟩ = some (.int .i64 t.hi) := (hb1.cell (by simp)).trans (by simp)
      have hs1 : w.heap.size + 1 ≤ w1.heap.size := by simpa using hb1.size
      clear hb1
      go_wp2_with fail
      refine (contains_vars (vs.take k) _ w.heap.size t.name _ (VArg.below hB1 HTAKE.out) d0).mono ?_
      rintro e w2 ⟨rfl, hb2⟩
      rw [HTW.out]
      have hB2 : Below w.heap.size w w2 := hB1.trans (hb2.mono (by omega))
      have e1 : w2.cell? ⟨w.heap.size, 1, none⟩ = some (.int .i64 t.lo) := (hb2.cell (p := ⟨w.heap.size, 1, none⟩) (by simp only; omega)).trans d1
      have e2 : w2.cell? ⟨w.heap.size, 2, none⟩ = some (.int .i64 t.hi) := (hb2.cell (p := ⟨w.heap.size, 2, none⟩) (by simp only; omega)).trans d2
      clear hb2 d0 d1 d2
      go_wp2
      go_ret
      exact ⟨ret_int HE.out.symm, hB2⟩
end Go.Proofs.YtggkbhafbhhhhabGreatDoor
