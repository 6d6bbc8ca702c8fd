/-
  PART 20 of what the proof leans on (RcD, RfU, RfV, RfX, RfW, PfA).
-/
import Derived.Test.YtdjbejlbmaiocagGreatDoorPartS
/-
  WALK: the reference's check of a model: CheckModel; where it says what Check says.
-/
namespace Go.Proofs.YtdjbejlbmaiocagGreatDoor
open Go.RowKit

def rconL (m : Mod) : List Int := m.cons.map (rconE m.vars)
theorem rconL_get (m : Mod) (k : Nat) (t : MCon) (h : m.cons[k]? = some t) : (rconL m)[k]? = some (rconE m.vars t) := by simp [rconL, h]
/-- What the reference says of a model. -/
def rcheckM (m : Mod) : Int :=
  if m.vars.length = 0 then 1 else if 6 < m.vars.length ∨ 8 < m.cons.length then 2
  else if firstE (varL m) = 0 then (if firstE (rconL m) = 0 then goalE m else firstE (rconL m)) else firstE (varL m)
/-- Literals as texts have them. -/
def LitsIn (m : Mod) : Prop := ∀ c ∈ m.cons, ∀ l ∈ c.lits, 1 ≤ l.op ∧ l.op ≤ 4
theorem firstE_eq {l k : List Int} (h : l = k) : firstE l = firstE k := by rw [h]
theorem litsE_first (vs : List MVar) : ∀ ls : List MLit, (∀ l ∈ ls, 1 ≤ l.op ∧ l.op ≤ 4) → (ls.all fun l => isVarB l.var vs.length) = true → firstE (ls.map (litE vs)) = litsE ls
  | [], _, _ => rfl
  | x :: r, h, hv => by
    have hx := h x List.mem_cons_self
    rw [List.all_cons, Bool.and_eq_true] at hv
    have ih := litsE_first vs r (fun l hl => h l (List.mem_cons_of_mem _ hl)) hv.2
    have hr : (r.all fun l => decide (1 ≤ l.op) && decide (l.op ≤ 4)) = true := List.all_eq_true.2 (fun l hl => by have := h l (List.mem_cons_of_mem _ hl); simp; omega)
    have hxx : (decide (1 ≤ x.op) && decide (x.op ≤ 4)) = true := by simp; omega
    have hvx : ¬ (x.var < 0 ∨ (vs.length : Int) ≤ x.var) := by have := hv.1; unfold isVarB at this; simp at this; omega
    rw [List.map_cons]
    unfold litsE at ih ⊢
    rw [List.all_cons, List.all_cons, hxx, hr, Bool.true_and, if_pos rfl]
    rw [hr, if_pos rfl] at ih
    unfold firstE
    have hle : litE vs x = if x.n < -1000 ∨ 1000 < x.n then 3 else 0 := by unfold litE; rw [if_neg hvx, if_neg (by omega)]
    rw [hle]
    by_cases hn : x.n < -1000 ∨ 1000 < x.n
    · have hb : isConstB x.n = false := by unfold isConstB inB; rw [Bool.and_eq_false_iff]; simp; omega
      rw [if_pos hn, hb, Bool.false_and]
      rfl
    · have hb : isConstB x.n = true := by unfold isConstB inB; rw [Bool.and_eq_true]; simp; omega
      rw [if_neg hn, if_pos rfl, hb, Bool.true_and]
      exact ih
theorem rconE_same (vs : List MVar) (c : MCon) (h : ∀ l ∈ c.lits, 1 ≤ l.op ∧ l.op ≤ 4) : rconE vs c = conE vs.length c := by
  unfold rconE conE
  split
  · split
    · rfl
    · split
      · split
        · rename_i hv
          split
          · refine litsE_first vs c.lits h ?_
            unfold varsB at hv
            rw [Bool.and_eq_true] at hv
            exact hv.2
          · rfl
        · rfl
      · rfl
  · rfl
theorem rcheckM_same (m : Mod) (h : LitsIn m) : rcheckM m = checkM m := by
  have e : rconL m = conL m := List.map_congr_left (fun c hc => rconE_same m.vars c (h c hc))
  unfold rcheckM checkM
  rw [e]
  rfl
/-- A box lies behind the old world. -/
structure CmS (w wr : World) (mb : Array Value) : Prop where
  bel : Below w.heap.size w wr
  mod : wr.heap[w.heap.size]? = some (.cells mb 25)
theorem CmS.below {w wr wr' : World} {mb : Array Value} (h : CmS w wr mb) (hb : Below wr.heap.size wr wr') : CmS w wr' mb :=
  ⟨h.bel.trans (hb.mono h.bel.size), (hb.block _ (Array.getElem?_eq_some_iff.1 h.mod).1).trans h.mod⟩
theorem in50 (n : Int) : (decide (-50 ≤ n) && decide (n ≤ 50)) = inB n 50 := rfl

set_option maxHeartbeats 4000000 in
set_option maxRecDepth 100000 in
theorem rcheckmodel_any (m : Mod) (vs cs : Value) (w : World) (hm : MArg w vs cs m) :
    Calls Tryz.prog 10 #[modV vs cs m] w fun e w' => e = .returned (.int .i64 (rcheckM m)) ∧ Below w.heap.size w w' := by
  have HMA : Hid (∀ w' : World, Below w.heap.size w w' → MArg w' vs cs m) := fun w' h => MArg.below h hm
  obtain ⟨⟨a1, c1, rfl, hl1, hr1⟩, ⟨a2, c2, rfl, hl2, hr2⟩⟩ := hm
  obtain ⟨R, hR⟩ : ∃ R, rcheckM m = R := ⟨_, rfl⟩
  rw [hR]
  unfold maxLen at hl1 hl2
  obtain ⟨hl11, hl1⟩ := hl1
  obtain ⟨hl21, hl2⟩ := hl2
  have HML : Hid (m.vars.length ≤ maxLen) := by unfold maxLen; show _ ≤ _; omega
  clear hr1 hr2
  unfold modV
  have HS0 : Hid (CmS w (w.alloc (.cells #[.slice a1 m.vars.length c1, .slice a2 m.cons.length c2, .int .i64 m.goal, .int .i64 m.var] 25)) #[.slice a1 m.vars.length c1, .slice a2 m.cons.length c2, .int .i64 m.goal, .int .i64 m.var]) := ⟨below_alloc _ _, heap_alloc_new w _⟩
  obtain ⟨mb, hmb⟩ : ∃ mb : Array Value, #[.slice a1 m.vars.length c1, .slice a2 m.cons.length c2, .int .i64 m.goal, .int .i64 m.var] = mb := ⟨_, rfl⟩
  have HMB : Hid (mb[0]? = some (.slice a1 m.vars.length c1) ∧ mb[1]? = some (.slice a2 m.cons.length c2) ∧ mb[2]? = some (.int .i64 m.goal) ∧ mb[3]? = some (.int .i64 m.var)) := by rw [← hmb]; exact ⟨rfl, rfl, rfl, rfl⟩
  obtain ⟨y, hy⟩ : ∃ y, w.alloc (.cells #[.slice a1 m.vars.length c1, .slice a2 m.cons.length c2, .int .i64 m.goal, .int .i64 m.var] 25) = y := ⟨_, rfl⟩
  rw [hy] at HS0
  rw [hmb] at HS0
  have HY : Hid (w.alloc (.cells #[.slice a1 m.vars.length c1, .slice a2 m.cons.length c2, .int .i64 m.goal, .int .i64 m.var] 25) = y) := hy
  clear hy hmb
  have m0 : y.cell? ⟨w.heap.size, 0, none⟩ = some (.slice a1 m.vars.length c1) := blk9 HS0.out.mod 0 _ HMB.out.1
  have m1 : y.cell? ⟨w.heap.size, 1, none⟩ = some (.slice a2 m.cons.length c2) := blk9 HS0.out.mod 1 _ HMB.out.2.1
  by_cases h0 : m.vars.length = 0
  · have HE : Hid (R = 1) := by rw [← hR]; unfold rcheckM; rw [if_pos h0]; rfl
    have g0 : ((m.vars.length : Int) == 0) = true := by simp [h0]
    clear hR h0
    go_enter Tryz.func10, Tryz.ntmps10
    go_wp2
    go_ret
    exact ⟨ret_int HE.out.symm, below_alloc _ _⟩
  · have g0 : ((m.vars.length : Int) == 0) = false := by simpa using h0
    by_cases h6 : 6 < m.vars.length
    · have HE : Hid (R = 2) := by rw [← hR]; unfold rcheckM; rw [if_neg h0, if_pos (Or.inl h6)]; rfl
      clear hR h0
      go_enter Tryz.func10, Tryz.ntmps10
      go_wp2
      go_ret
      exact ⟨ret_int HE.out.symm, below_alloc _ _⟩
    · by_cases h8 : 8 < m.cons.length
      · have HE : Hid (R = 2) := by rw [← hR]; unfold rcheckM; rw [if_neg h0, if_pos (Or.inr h8)]; rfl
        clear hR h0
        go_enter Tryz.func10, Tryz.ntmps10
        go_wp2
        go_ret
        exact ⟨ret_int HE.out.symm, below_alloc _ _⟩
      · have HE : Hid (R = if firstE (varL m) = 0 then (if firstE (rconL m) = 0 then goalE m else firstE (rconL m)) else firstE (varL m)) := by
          rw [← hR]; unfold rcheckM; rw [if_neg h0, if_neg (by omega)]; rfl
        clear hR h0
        go_enter Tryz.func10, Tryz.ntmps10
        go_wp2
        rw [HY.out]
        clear HY m0 m1
        go_loopw [4] (fun i wr => ∃ k : Nat, k ≤ m.vars.length ∧ i = .int .i64 k ∧ Hid (firstE ((varL m).take k) = 0) ∧ Hid (CmS w wr mb)) (fun i _ => m.vars.length - (intOf i).toNat)
        case atStart => exact ⟨0, by omega, rfl, rfl, HS0⟩
        case round =>
          clear HS0
          obtain ⟨k, hk, rfl, hno, HS⟩ := hrel
          have m0 : wr.cell? ⟨w.heap.size, 0, none⟩ = some (.slice a1 m.vars.length c1) := blk9 HS.out.mod 0 _ HMB.out.1
          have hws : w.heap.size < wr.heap.size := (Array.getElem?_eq_some_iff.1 HS.out.mod).1
          by_cases hlt : k < m.vars.length
          · obtain ⟨t, ht⟩ : ∃ t, m.vars[k]? = some t := ⟨m.vars[k], by simp [hlt]⟩
            have HG : Hid ((varL m)[k]? = some (varE (m.vars.take k) t)) := varL_get m k t ht
            obtain ⟨a9, c9, e9, _, hr⟩ := (HMA.out _ HS.out.bel).1
            injection e9 with e91 _ e92
            rw [← e91] at hr
            clear e91 e92
            obtain ⟨hts, b, off, ha, hb, n0, n1, n2⟩ := hr k t ht
            rw [ha] at m0
            have HA1 : Hid (a1 = some ⟨b, off, none⟩) := ha
            have HTS : Hid (t.name.size ≤ maxLen) := hts
            clear hr ht ha hts
            obtain ⟨V, hV⟩ : ∃ V, varE (m.vars.take k) t = V := ⟨_, rfl⟩
            rw [hV] at HG
            have HV : Hid (V = (if isNameB t.name then (if twiceB (m.vars.take k) t.name then 6 else if inB t.lo 50 && (inB t.hi 50 && !decide (t.hi < t.lo)) then (if 6 < t.hi - t.lo + 1 then 2 else 0) else 3) else 1)) := by show _ = _; rw [← hV]; rfl
            clear hV
            have HHIT : Hid (V ≠ 0 → R = V) := fun hv => by rw [HE.out, if_neg (by rw [firstE_hit _ k V hno.out HG.out hv]; exact hv)]; exact firstE_hit _ k V hno.out HG.out hv
            have HSV : Hid (CmS w (wr.alloc (.cells #[.string t.name, .int .i64 t.lo, .int .i64 t.hi] 71)) mb) := HS.out.below (below_alloc _ _)
            have HVB : Hid ((wr.alloc (.cells #[.string t.name, .int .i64 t.lo, .int .i64 t.hi] 71)).heap[wr.heap.size]? = some (.cells #[.string t.name, .int .i64 t.lo, .int .i64 t.hi] 71)) := heap_alloc_new wr _
            obtain ⟨nm, hnm⟩ : ∃ nm, t.name = nm := ⟨_, rfl⟩
            obtain ⟨lo, hlo⟩ : ∃ lo, t.lo = lo := ⟨_, rfl⟩
            obtain ⟨hi, hhi⟩ : ∃ hi, t.hi = hi := ⟨_, rfl⟩
            rw [hnm] at HTS
            rw [hnm, hlo, hhi] at HV
            rw [hnm, hlo, hhi] at HSV HVB
            rw [hnm] at n0
            rw [hlo] at n1
            rw [hhi] at n2
            clear hnm hlo hhi
            go_wp2_with fail
            refine (isname_any nm HTS.out _).mono ?_
            rintro e w1 ⟨rfl, hb1⟩
            have HS1 : Hid (CmS w w1 mb) := HSV.out.below hb1
            have HVB1 : Hid (w1.heap[wr.heap.size]? = some (.cells #[.string nm, .int .i64 lo, .int .i64 hi] 71)) := (hb1.block _ (Array.getElem?_eq_some_iff.1 HVB.out).1).trans HVB.out
            obtain ⟨B, hB⟩ : ∃ B, wr.heap.size = B := ⟨_, rfl⟩
            rw [hB] at HVB1
            have HBB : Hid (wr.heap.size = B) := hB
            clear hb1 HSV HVB m0 n0 n1 n2 hb HS hws hB
            cases hn : isNameB nm
            · have HN : Hid (R = 1) := by
                have hv : V = 1 := by rw [HV.out, hn]; rfl
                rw [hv] at HHIT; exact HHIT.out (by decide)
              clear hn
              go_wp2
              go_ret
              exact ⟨ret_int HN.out.symm, HS1.out.bel⟩
            have HV1 : Hid (V = (if twiceB (m.vars.take k) nm then 6 else if inB lo 50 && (inB hi 50 && !decide (hi < lo)) then (if 6 < hi - lo + 1 then 2 else 0) else 3)) := by show _ = _; rw [HV.out, hn]; rfl
            clear hn HV
            go_wp2_with fail
            rw [HBB.out]
            clear HBB
            go_loopw [6] (fun i wx => ∃ j : Nat, j ≤ k ∧ i = .int .i64 j ∧ Hid (twiceB (m.vars.take j) nm = false) ∧ Hid (CmS w wx mb) ∧ Hid (wx.heap[B]? = some (.cells #[.string nm, .int .i64 lo, .int .i64 hi] 71))) (fun i _ => k - (intOf i).toNat)
            case atStart => exact ⟨0, by omega, rfl, rfl, HS1, HVB1⟩
            case round =>
              clear HS1 HVB1
              obtain ⟨j, hj, rfl, htw, HS1, HVB1⟩ := hrel
              have m0 : wr.cell? ⟨w.heap.size, 0, none⟩ = some (.slice a1 m.vars.length c1) := blk9 HS1.out.mod 0 _ HMB.out.1
              have v0 : wr.cell? ⟨B, 0, none⟩ = some (.string nm) := blk9 HVB1.out 0 _ rfl
              have v1 : wr.cell? ⟨B, 1, none⟩ = some (.int .i64 lo) := blk9 HVB1.out 1 _ rfl
              have v2 : wr.cell? ⟨B, 2, none⟩ = some (.int .i64 hi) := blk9 HVB1.out 2 _ rfl
              by_cases hltj : j < k
              · obtain ⟨u, hu⟩ : ∃ u, m.vars[j]? = some u := ⟨m.vars[j], by simp⟩
                have hu2 : (m.vars.take k)[j]? = some u := by rw [List.getElem?_take, if_pos hltj]; exact hu
                obtain ⟨a9, c9, e9, _, hr⟩ := (HMA.out _ HS1.out.bel).1
                injection e9 with e91 _ e92
                rw [← e91] at hr
                clear e91 e92
                obtain ⟨hts, b2, off2, ha, hb2, n0, n1, n2⟩ := hr j u hu
                rw [ha] at m0
                have HU : Hid (m.vars[j]? = some u) := hu
                have HU2 : Hid ((m.vars.take k)[j]? = some u) := hu2
                clear hr ha hts hu hu2 n1 n2
                cases hq : (u.name.toList == nm.toList)
                · have HN : Hid (twiceB (m.vars.take (j + 1)) nm = false) := by
                    show _ = _
                    have h1 := htw.out
                    unfold twiceB at h1 ⊢
                    rw [List.take_add_one, HU.out, List.any_append, h1]
                    simp [hq]
                  clear htw
                  go_wp2
                  go_quiet (fail)
                  go_wp2
                  have HB9 : Hid (Below wr.heap.size wr (wr.drewN nq)) := below_drewN (Below.refl _ _) _
                  go_roundw
                  case rel => exact ⟨j + 1, by omega, by go_num, HN, HS1.out.below HB9.out, (HB9.out.block _ (Array.getElem?_eq_some_iff.1 HVB1.out).1).trans HVB1.out⟩
                  case measure => simp [intOf]; omega
                · have HN : Hid (R = 6) := by
                    have hv : V = 6 := by rw [HV1.out, twice_hit _ nm j u HU2.out hq]; rfl
                    rw [hv] at HHIT; exact HHIT.out (by decide)
                  go_wp2
                  go_quiet (fail)
                  go_wp2
                  go_ret
                  exact ⟨ret_int HN.out.symm, (HS1.out.below (below_drewN (Below.refl _ _) _)).bel⟩
              have hjk : j = k := by omega
              have HV2 : Hid (V = (if inB lo 50 && (inB hi 50 && !decide (hi < lo)) then (if 6 < hi - lo + 1 then 2 else 0) else 3)) := by show _ = _; rw [HV1.out, ← hjk, htw.out]; rfl
              clear HV1 htw m0 hjk
              go_wp2_with fail
              refine (between_any _ _ _ _).mono ?_
              rintro e wz ⟨rfl, rfl⟩
              rw [in50]
              cases h1 : inB lo 50
              · have HN : Hid (R = 3) := by
                  have hv : V = 3 := by rw [HV2.out, h1]; rfl
                  rw [hv] at HHIT; exact HHIT.out (by decide)
                clear h1
                go_wp2
                go_ret
                exact ⟨ret_int HN.out.symm, HS1.out.bel⟩
              have hlo : -50 ≤ lo ∧ lo ≤ 50 := by unfold inB at h1; simp at h1; omega
              go_wp2_with fail
              refine (between_any _ _ _ _).mono ?_
              rintro e wz ⟨rfl, rfl⟩
              rw [in50]
              cases h2 : inB hi 50
              · have HN : Hid (R = 3) := by
                  have hv : V = 3 := by rw [HV2.out, h1, h2]; rfl
                  rw [hv] at HHIT; exact HHIT.out (by decide)
                clear h1 h2
                go_wp2
                go_ret
                exact ⟨ret_int HN.out.symm, HS1.out.bel⟩
              have hhi : -50 ≤ hi ∧ hi ≤ 50 := by unfold inB at h2; simp at h2; omega
              by_cases h3 : hi < lo
              · have HN : Hid (R = 3) := by
                  have hv : V = 3 := by rw [HV2.out, h1, h2, decide_eq_true h3]; rfl
                  rw [hv] at HHIT; exact HHIT.out (by decide)
                clear h1 h2
                go_wp2
                go_ret
                exact ⟨ret_int HN.out.symm, HS1.out.bel⟩
              have HV3 : Hid (V = (if 6 < hi - lo + 1 then 2 else 0)) := by show _ = _; rw [HV2.out, h1, h2, decide_eq_false h3]; rfl
              clear HV2 h1 h2
              by_cases h4 : 6 < hi - lo + 1
              · have HN : Hid (R = 2) := by
                  have hv : V = 2 := by rw [HV3.out, if_pos h4]
                  rw [hv] at HHIT; exact HHIT.out (by decide)
                go_wp2
                go_ret
                exact ⟨ret_int HN.out.symm, HS1.out.bel⟩
              have HN : Hid (firstE ((varL m).take (k + 1)) = 0) := by
                have hv : V = 0 := by rw [HV3.out, if_neg h4]
                rw [hv] at HG
                exact firstE_step _ k hno.out HG.out
              clear HV3 HHIT HG
              go_wp2
              go_roundw
              case rel => exact ⟨k + 1, by omega, by go_num, HN, HS1⟩
              case measure => simp [intOf]; omega
          have HE2 : Hid (R = if firstE (rconL m) = 0 then goalE m else firstE (rconL m)) := by
            have h1 := hno.out
            rw [List.take_of_length_le (by rw [varL_len]; omega)] at h1
            show _ = _
            rw [HE.out, if_pos h1]
          clear HE hno
          go_wp2_with fail
          clear m0 hlt hk hws
          obtain ⟨wa, hwa⟩ : ∃ wa, wr = wa := ⟨_, rfl⟩
          rw [hwa] at HS ⊢
          clear hwa
          go_loopw [7] (fun i wr => ∃ k : Nat, k ≤ m.cons.length ∧ i = .int .i64 k ∧ Hid (firstE ((rconL m).take k) = 0) ∧ Hid (CmS w wr mb)) (fun i _ => m.cons.length - (intOf i).toNat)
          case atStart => exact ⟨0, by omega, rfl, rfl, HS⟩
          case round =>
            clear HS
            obtain ⟨k, hk, rfl, hno, HS⟩ := hrel
            have m0 : wr.cell? ⟨w.heap.size, 0, none⟩ = some (.slice a1 m.vars.length c1) := blk9 HS.out.mod 0 _ HMB.out.1
            have m1 : wr.cell? ⟨w.heap.size, 1, none⟩ = some (.slice a2 m.cons.length c2) := blk9 HS.out.mod 1 _ HMB.out.2.1
            have m2 : wr.cell? ⟨w.heap.size, 2, none⟩ = some (.int .i64 m.goal) := blk9 HS.out.mod 2 _ HMB.out.2.2.1
            have m3 : wr.cell? ⟨w.heap.size, 3, none⟩ = some (.int .i64 m.var) := blk9 HS.out.mod 3 _ HMB.out.2.2.2
            by_cases hlt : k < m.cons.length
            · obtain ⟨t, ht⟩ : ∃ t, m.cons[k]? = some t := ⟨m.cons[k], by simp [hlt]⟩
              have hg := rconL_get m k t ht
              obtain ⟨a9, c9, e9, _, hr⟩ := (HMA.out _ HS.out.bel).2
              injection e9 with e91 _ e92
              rw [← e91] at hr
              clear e91 e92
              obtain ⟨b, off, vv, vc, vr, vl, ha, hb, q0, q1, q2, q3, q4, q5, hka⟩ := hr k t ht
              have hnv := rcheckcon_any m t a1 c1 (.slice a2 m.cons.length c2) vv vc vr vl wr.drew HML.out (KArg.below (Below.refl _ _).drew hka)
              obtain ⟨er, her⟩ : ∃ er, rconE m.vars t = er := ⟨_, rfl⟩
              rw [her] at hg hnv
              have HG : Hid ((rconL m)[k]? = some er) := hg
              obtain ⟨⟨x1, y1, rfl, _, _⟩, ⟨x2, y2, rfl, _, _⟩, ⟨x3, y3, rfl, _, _⟩, ⟨x4, y4, rfl, _, _⟩⟩ := hka
              unfold conV at hnv
              have m1' : wr.cell? ⟨w.heap.size, 1, none⟩ = some (.slice (some ⟨b, off, none⟩) m.cons.length c2) := by rw [← ha]; exact m1
              rw [ha] at hnv
              clear hr ht her hg m1 ha
              go_wp2_with fail
              go_region_law
                (first
                  | (rw [if_pos (by rfl)]; go_simp; go_at_call 45; refine hnv.mono ?_; rintro e w3 ⟨rfl, hb3⟩; have hB3 : Below wr.heap.size wr w3 := (Below.refl _ _).drew.trans hb3; dsimp only))
              all_goals
                have HS3 : Hid (CmS w w3 mb) := HS.out.below hB3
                clear hB3 hb3 hnv
                by_cases he : er = 0
                · subst he
                  have HN : Hid (firstE ((rconL m).take (k + 1)) = 0) := firstE_step _ k hno.out HG.out
                  go_wp2
                  go_roundw
                  case rel => exact ⟨k + 1, by omega, by go_num, HN, HS3⟩
                  case measure => simp [intOf]; omega
                · have HN : Hid (R = er) := by show _ = _; rw [HE2.out, if_neg (by rw [firstE_hit _ k er hno.out HG.out he]; exact he)]; exact firstE_hit _ k er hno.out HG.out he
                  have he2 : (er != 0) = true := by simpa using he
                  clear he
                  go_wp2
                  go_ret
                  exact ⟨ret_int HN.out.symm, HS3.out.bel⟩
            have HE3 : Hid (R = goalE m) := by
              have h1 := hno.out
              rw [List.take_of_length_le (by unfold rconL; rw [List.length_map]; omega)] at h1
              show _ = _
              rw [HE2.out, if_pos h1]
            clear HE2 hno
            obtain ⟨g, hg⟩ : ∃ g, m.goal = g := ⟨_, rfl⟩
            obtain ⟨x, hx⟩ : ∃ x, m.var = x := ⟨_, rfl⟩
            rw [hg] at m2
            rw [hx] at m3
            have HGE : Hid (R = if g = 0 then (if x = 0 then 0 else 1) else if g = 1 ∨ g = 2 then (if isVarB x m.vars.length then 0 else 5) else 7) := by show _ = _; rw [HE3.out, ← hg, ← hx]; rfl
            clear HE3 hg hx
            go_wp2_with fail
            refine (between_any _ _ _ _).mono ?_
            rintro e wz ⟨rfl, rfl⟩
            by_cases hg02 : 0 ≤ g ∧ g ≤ 2
            · have hq : (decide (0 ≤ g) && decide (g ≤ 2)) = true := by rw [Bool.and_eq_true]; simp; omega
              rw [hq]
              by_cases hg0 : g = 0
              · subst hg0
                by_cases hx0 : x = 0
                · subst hx0
                  have HN : Hid (R = 0) := HGE.out
                  go_wp2
                  go_ret
                  exact ⟨ret_int HN.out.symm, HS.out.bel⟩
                · have HN : Hid (R = 1) := by show _ = _; rw [HGE.out, if_pos rfl, if_neg hx0]
                  have hxn : (x != 0) = true := by simpa using hx0
                  clear hx0
                  go_wp2
                  go_ret
                  exact ⟨ret_int HN.out.symm, HS.out.bel⟩
              · have hgn : (g != 0) = true := by simpa using hg0
                have hgz : (g == 0) = false := by simpa using hg0
                have HN0 : Hid (R = if isVarB x m.vars.length then 0 else 5) := by show _ = _; rw [HGE.out, if_neg hg0, if_pos (by omega)]
                clear HGE
                have HWR : Hid (IntKind.i64.wrap ((m.vars.length : Int) - 1) = (m.vars.length : Int) - 1) := by show _ = _; rw [IntKind.wrap_i64]; omega
                go_wp2_with fail
                refine (between_any _ _ _ _).mono ?_
                rintro e wz ⟨rfl, rfl⟩
                try rw [HWR.out]
                rw [isvar_two]
                cases hv : isVarB x m.vars.length
                · have HN : Hid (R = 5) := by show _ = _; rw [HN0.out, hv]; rfl
                  clear hv
                  go_wp2
                  go_ret
                  exact ⟨ret_int HN.out.symm, HS.out.bel⟩
                · have HN : Hid (R = 0) := by show _ = _; rw [HN0.out, hv]; rfl
                  clear hv
                  go_wp2
                  go_ret
                  exact ⟨ret_int HN.out.symm, HS.out.bel⟩
            · have hq : (decide (0 ≤ g) && decide (g ≤ 2)) = false := by rw [Bool.and_eq_false_iff]; simp; omega
              rw [hq]
              have HN : Hid (R = 7) := by show _ = _; rw [HGE.out, if_neg (by omega), if_neg (by omega)]
              go_wp2
              go_ret
              exact ⟨ret_int HN.out.symm, HS.out.bel⟩
end Go.Proofs.YtdjbejlbmaiocagGreatDoor
/-
  PLAIN: the reference's reader and the program's: variables, constraints, the goal; the whole text.
-/
namespace Go.Proofs.YtdjbejlbmaiocagGreatDoor

section
variable {en : Int} {T : List Tok}
theorem needThen {γ δ : Type} {S : γ → δ → Prop} {g : RP → γ × RP} {Q : List Tok → PR δ} (s : ByteArray) (hs : (ByteArray.empty.toList == s.toList) = false) (hg : Same en T S g Q) : Same en T S (fun p => g (needR en T s p)) (fun l => (skipP en s l).bind fun _ l => Q l) :=
  (need_same en T s hs).bindS (g := fun _ p => g p) (Q := fun _ l => Q l) (fun _ => hg.still) (fun _ _ _ => hg)
end
def newNameR (en : Int) (T : List Tok) (p : RP) : ByteArray × RP := (txR en T p, if isNameB (txR en T p) then stepR p else wrongR 1 p)
theorem newName_still (en : Int) (T : List Tok) : Still (newNameR en T) := fun p hp => by
  unfold newNameR
  rw [tx_still en T p hp, namex_empty]
  exact wrong_still 1 p hp
theorem newName_same (en : Int) (T : List Tok) : Same en T Eq (newNameR en T) (newNameP en) := by
  refine ⟨newName_still en T, fun p hp hk => ?_⟩
  unfold newNameR newNameP
  rw [tx_head en T p hp, name_eq]
  refine pass_agree (y := fun t => t.text) p hp hk _ _ (fun hq => ⟨by show (if _ then _ else _) = _; rw [hq, if_pos rfl], head_in en T p.k (fun h0 => by rw [h0, namex_empty] at hq; cases hq), rfl⟩) (fun hq => by show (if _ then _ else _) = _; rw [hq, if_neg (by simp)])
def newVarR (en : Int) (T : List Tok) (p : RP) : MVar × RP :=
  let a := newNameR en T (needR en T varW p)
  let b := kR en T (needR en T colW a.2)
  let c := kR en T (needR en T dotsW b.2)
  (⟨a.1, b.1, c.1⟩, needR en T semiW c.2)
theorem newVar_same (en : Int) (T : List Tok) (hT : Solid T) : Same en T Eq (newVarR en T) (newVarP en) := by
  have hN := number_same en T hT
  have h7 : ∀ (n : ByteArray) (lo hi : Int), Same en T Eq (fun p => ((⟨n, lo, hi⟩ : MVar), needR en T semiW p)) (fun l => (skipP en semiW l).bind fun _ l => .ok (⟨n, lo, hi⟩ : MVar) l) := fun n lo hi => needThen semiW (by decide +kernel) (g := fun p => ((⟨n, lo, hi⟩ : MVar), p)) (Same.pure rfl)
  have h6 : ∀ (n : ByteArray) (lo : Int), Same en T Eq (fun p => ((⟨n, lo, (kR en T p).1⟩ : MVar), needR en T semiW (kR en T p).2)) (fun l => (numberP en l).bind fun hi l => (skipP en semiW l).bind fun _ l => .ok (⟨n, lo, hi⟩ : MVar) l) := fun n lo =>
    hN.bindS (g := fun hi p => ((⟨n, lo, hi⟩ : MVar), needR en T semiW p)) (Q := fun hi l => (skipP en semiW l).bind fun _ l => .ok (⟨n, lo, hi⟩ : MVar) l) (fun hi => (h7 n lo hi).still) (fun x y hxy => by rw [hxy]; exact h7 n lo y)
  have h5 := fun (n : ByteArray) (lo : Int) => needThen dotsW (by decide +kernel) (h6 n lo)
  have h4 : ∀ n : ByteArray, Same en T Eq (fun p => ((⟨n, (kR en T p).1, (kR en T (needR en T dotsW (kR en T p).2)).1⟩ : MVar), needR en T semiW (kR en T (needR en T dotsW (kR en T p).2)).2)) (fun l => (numberP en l).bind fun lo l => (skipP en dotsW l).bind fun _ l => (numberP en l).bind fun hi l => (skipP en semiW l).bind fun _ l => .ok (⟨n, lo, hi⟩ : MVar) l) := fun n =>
    hN.bindS (g := fun lo p => ((⟨n, lo, (kR en T (needR en T dotsW p)).1⟩ : MVar), needR en T semiW (kR en T (needR en T dotsW p)).2)) (Q := fun lo l => (skipP en dotsW l).bind fun _ l => (numberP en l).bind fun hi l => (skipP en semiW l).bind fun _ l => .ok (⟨n, lo, hi⟩ : MVar) l) (fun lo => (h5 n lo).still) (fun x y hxy => by rw [hxy]; exact h5 n y)
  have h3 := fun (n : ByteArray) => needThen colW (by decide +kernel) (h4 n)
  exact needThen varW (by decide +kernel) ((newName_same en T).bindS (g := fun n p => ((⟨n, (kR en T (needR en T colW p)).1, (kR en T (needR en T dotsW (kR en T (needR en T colW p)).2)).1⟩ : MVar), needR en T semiW (kR en T (needR en T dotsW (kR en T (needR en T colW p)).2)).2))
    (Q := fun n l => (skipP en colW l).bind fun _ l => (numberP en l).bind fun lo l => (skipP en dotsW l).bind fun _ l => (numberP en l).bind fun hi l => (skipP en semiW l).bind fun _ l => .ok (⟨n, lo, hi⟩ : MVar) l) (fun n => (h3 n).still) (fun x y hxy => by rw [hxy]; exact h3 y))
/-- Things one behind the other, each behind its word. -/
def rowR {α : Type} (en : Int) (T : List Tok) (wd : List UInt8) (f : RP → α × RP) : Nat → List α → RP → List α × RP
  | 0, acc, p => (acc, p)
  | n + 1, acc, p => if ((txR en T p).toList == wd) = true then rowR en T wd f n (acc ++ [(f p).1]) (f p).2 else (acc, p)
def rrowP {α : Type} (en : Int) (wd : List UInt8) (P : List Tok → PR α) : Nat → List α → List Tok → PR (List α)
  | 0, _, _ => .bad 0 0
  | f + 1, acc, l => if ((headT en l).text.toList == wd) = true then (P l).bind fun v l => rrowP en wd P f (acc ++ [v]) l else .ok acc l
theorem vars_row (en : Int) : ∀ (f : Nat) (acc : List MVar) (l : List Tok), varsP en f acc l = rrowP en [118, 97, 114] (newVarP en) f acc l
  | 0, _, _ => rfl
  | f + 1, acc, l => by
    unfold varsP rrowP
    simp only [vars_row en f]
theorem cons_row (en : Int) (nm : List ByteArray) : ∀ (f : Nat) (acc : List MCon) (l : List Tok), consP en nm f acc l = rrowP en [99, 111, 110] (conP en nm) f acc l
  | 0, _, _ => rfl
  | f + 1, acc, l => by
    unfold consP rrowP
    simp only [cons_row en nm f]
theorem row_stop {α : Type} (en : Int) (T : List Tok) (wd : List UInt8) (hw : (ByteArray.empty.toList == wd) = false) (f : RP → α × RP) (n : Nat) (acc : List α) (p : RP) (hp : p.er ≠ 0) : rowR en T wd f n acc p = (acc, p) := by
  cases n with
  | zero => rfl
  | succ n => unfold rowR; rw [tx_still en T p hp, if_neg (by rw [hw]; simp)]
/-- The same, if names differ; as many in any case. -/
def RDL {α : Type} (D : Prop) (xs ys : List α) : Prop := (D → xs = ys) ∧ xs.length = ys.length
theorem rrow_same {α : Type} {en : Int} {T : List Tok} {D : Prop} (wd : List UInt8) (hw : (ByteArray.empty.toList == wd) = false) {f : RP → α × RP} {P : List Tok → PR α} (hf : Same en T (RD D) f P) (hE : ∀ l x r, ((headT en l).text.toList == wd) = true → P l = .ok x r → r.length < l.length) :
    ∀ (n : Nat) (p : RP) (acc acc' : List α) (fu gu : Nat), p.er = 0 → p.k ≤ T.length → (T.drop p.k).length ≤ n → n + 1 ≤ fu → n + 1 ≤ gu → (D → acc = acc') ∧ acc.length = acc'.length →
      RAgree en T (RDL D) (rowR en T wd f fu acc p) (rrowP en wd P gu acc' (T.drop p.k)) := by
  intro n
  induction n with
  | zero =>
    intro p acc acc' fu gu hp hk hl hfu hgu ha
    obtain ⟨g, rfl⟩ : ∃ g, gu = g + 1 := ⟨gu - 1, by omega⟩
    obtain ⟨f0, rfl⟩ : ∃ f0, fu = f0 + 1 := ⟨fu - 1, by omega⟩
    have h0 : T.drop p.k = [] := List.eq_nil_of_length_eq_zero (by omega)
    unfold rowR rrowP
    rw [tx_head en T p hp, h0]
    have e : ((headT en []).text.toList == wd) = false := hw
    rw [e, if_neg (by simp), if_neg (by simp)]
    exact ⟨hp, h0, hk, ha⟩
  | succ n ih =>
    intro p acc acc' fu gu hp hk hl hfu hgu ha
    obtain ⟨g, rfl⟩ : ∃ g, gu = g + 1 := ⟨gu - 1, by omega⟩
    obtain ⟨f0, rfl⟩ : ∃ f0, fu = f0 + 1 := ⟨fu - 1, by omega⟩
    unfold rowR rrowP
    rw [tx_head en T p hp]
    cases hq : ((headT en (T.drop p.k)).text.toList == wd)
    · rw [if_neg (by simp), if_neg (by simp)]
      exact ⟨hp, rfl, hk, ha⟩
    · rw [if_pos rfl, if_pos rfl]
      have h2 := hf.same p hp hk
      cases hP : P (T.drop p.k) with
      | ok x l =>
        rw [hP] at h2
        obtain ⟨b1, b2, b3, b4⟩ := h2
        have hl2 := hE _ x l hq hP
        have := ih (f p).2 (acc ++ [(f p).1]) (acc' ++ [x]) f0 g b1 b3 (by rw [b2]; omega) (by omega) (by omega) ⟨fun hD => by rw [ha.1 hD, b4 hD], by simp [ha.2]⟩
        rw [b2] at this
        exact this
      | bad pl e =>
        rw [hP] at h2
        obtain ⟨b1, b2, b3, b4⟩ := h2
        rw [row_stop en T wd hw f _ _ _ (by rw [b1]; exact b2)]
        exact ⟨b1, b2, b3, b4⟩
def goalEndR (en : Int) (T : List Tok) (nm : List ByteArray) (g : Int) (p : RP) : (Int × Int) × RP :=
  if p.er = 0 ∧ g ≠ 0 then ((g, (vR en T nm p).1), needR en T semiW (vR en T nm p).2) else ((g, 0), needR en T semiW p)
def goalR (en : Int) (T : List Tok) (nm : List ByteArray) (p : RP) : (Int × Int) × RP :=
  goalEndR en T nm (wordR en T (needR en T solveW p) goalWL 0).1 (wordR en T (needR en T solveW p) goalWL 0).2
theorem goals_solid : ∀ s ∈ goalWL, (ByteArray.empty.toList == s.toList) = false := by
  intro s hs
  simp only [goalWL, List.mem_cons, List.not_mem_nil, or_false] at hs
  rcases hs with rfl | rfl | rfl <;> decide +kernel
theorem goal_same (en : Int) (T : List Tok) (hT : Solid T) (nm : List ByteArray) (hn : ∀ n ∈ nm, ∀ s : ByteArray, n.data.toList = s.data.toList → isNameB s = true) : Same en T (RD (Apart nm)) (goalR en T nm) (goalP en nm) := by
  have hst : ∀ g, Still (goalEndR en T nm g) := fun g p hp => by
    unfold goalEndR
    rw [if_neg (fun h => hp h.1)]
    exact need_still en T semiW p hp
  refine needThen solveW (by decide +kernel) (g := fun p => goalEndR en T nm (wordR en T p goalWL 0).1 (wordR en T p goalWL 0).2) ((word_same en T hT goalWL goals_solid).bind (g := goalEndR en T nm)
    (Q := fun g l => if g = 0 then (skipP en semiW l).bind fun _ l => .ok (g, 0) l else (nameP en nm l).bind fun v l => (skipP en semiW l).bind fun _ l => .ok (g, v) l) hst (fun x y hxy p hp hk => ?_))
  rw [hxy]
  unfold goalEndR
  by_cases h0 : y = 0
  · rw [if_neg (fun h => h.2 h0), if_pos h0]
    exact (needThen semiW (by decide +kernel) (g := fun p => ((y, (0 : Int)), p)) (Q := fun l => .ok (y, 0) l) (Same.pure (R := RD (Apart nm)) (fun _ => rfl))).same p hp hk
  · rw [if_pos ⟨hp, h0⟩, if_neg h0]
    have h1 : ∀ v v' : Int, RD (Apart nm) v v' → Same en T (RD (Apart nm)) (fun p => ((y, v), needR en T semiW p)) (fun l => (skipP en semiW l).bind fun _ l => .ok (y, v') l) := fun v v' hv =>
      needThen semiW (by decide +kernel) (g := fun p => ((y, v), p)) (Q := fun l => .ok (y, v') l) (Same.pure (R := RD (Apart nm)) (fun hD => by rw [hv hD]))
    exact ((name_same en T nm hn).bindS (S := RD (Apart nm)) (g := fun v p => ((y, v), needR en T semiW p)) (Q := fun v l => (skipP en semiW l).bind fun _ l => .ok (y, v) l) (fun v p hp => need_still en T semiW p hp) h1).same p hp hk
end Go.Proofs.YtdjbejlbmaiocagGreatDoor
/-
  PLAIN: the reference's reader and the program's come to the same of a whole text.
-/
namespace Go.Proofs.YtdjbejlbmaiocagGreatDoor

theorem reats_bind {α β : Type} {P : List Tok → PR α} {Q : α → List Tok → PR β} (hP : Eats P) (hQ : ∀ x, Eats (Q x)) : Eats (fun l => (P l).bind Q) := fun l x r h => by
  obtain ⟨a, q, h1, h2⟩ := PR.bind_ok h
  exact Nat.le_trans (hQ a q x r h2) (hP l a q h1)
theorem eats_pure {α : Type} (y : α) : Eats (fun l => .ok y l) := fun l x r h => by cases h; exact Nat.le_refl _
theorem eats_nn (en : Int) : Eats (newNameP en) := eats_pass en (fun l => nameB (headT en l).text) (fun t _ => t.text)
/-- What begins with its word takes it. -/
theorem skip_less {α : Type} (en : Int) (s : ByteArray) (hs : (ByteArray.empty.toList == s.toList) = false) (Q : List Tok → PR α) (hQ : Eats Q) (l : List Tok) (x : α) (r : List Tok) (h : ((skipP en s l).bind fun _ l => Q l) = .ok x r) : r.length < l.length := by
  obtain ⟨t, q, h1, h2⟩ := PR.bind_ok h
  have h3 := hQ q x r h2
  have h4 := pass_eats en l _ t q h1
  have h5 : l ≠ [] := by
    intro he
    subst he
    unfold skipP passP at h1
    rw [show ((headT en []).text.toList == s.toList) = false from hs, if_neg (by simp)] at h1
    cases h1
  cases l with
  | nil => exact absurd rfl h5
  | cons a l => rw [h4] at h3; simp at h3 ⊢; omega
theorem newVar_less (en : Int) (l : List Tok) (x : MVar) (r : List Tok) (h : newVarP en l = .ok x r) : r.length < l.length :=
  skip_less en varW (by decide +kernel) _ (reats_bind (eats_nn en) fun _ => reats_bind (eats_skip en _) fun _ => reats_bind (eats_number en) fun _ => reats_bind (eats_skip en _) fun _ => reats_bind (eats_number en) fun _ => reats_bind (eats_skip en _) fun _ => eats_pure _) l x r h
theorem reats_body (en : Int) (nm : List ByteArray) (k : Int) : Eats (bodyP en nm k) := by
  have hK := eats_number en
  have hV := eats_name en nm
  have hKs := eats_read en _ hK
  have hVs := eats_read en _ hV
  have hL := eats_lit en nm
  unfold bodyP
  by_cases h1 : k = 1 ∨ k = 2 ∨ k = 3
  · simp only [if_pos h1]; exact reats_bind hKs fun _ => reats_bind hVs fun _ => reats_bind hK fun _ => eats_pure _
  simp only [if_neg h1]
  by_cases h4 : k = 4
  · simp only [if_pos h4]; exact reats_bind hVs fun _ => eats_pure _
  simp only [if_neg h4]
  by_cases h5 : k = 5
  · simp only [if_pos h5]; exact reats_bind hKs fun _ => reats_bind hV fun _ => reats_bind hV fun _ => eats_pure _
  simp only [if_neg h5]
  by_cases h6 : k = 6
  · simp only [if_pos h6]; exact reats_bind hVs fun _ => reats_bind (eats_read en _ hKs) fun _ => eats_pure _
  simp only [if_neg h6]
  by_cases h7 : k = 7
  · simp only [if_pos h7]; exact reats_bind hV fun _ => reats_bind hV fun _ => reats_bind hV fun _ => eats_pure _
  simp only [if_neg h7]
  by_cases h8 : k = 8
  · simp only [if_pos h8]; exact reats_bind hV fun _ => reats_bind hVs fun _ => eats_pure _
  simp only [if_neg h8]
  by_cases h9 : k = 9
  · simp only [if_pos h9]; exact reats_bind (eats_read en _ hL) fun _ => eats_pure _
  simp only [if_neg h9]
  by_cases h10 : k = 10
  · simp only [if_pos h10]; exact reats_bind hV fun _ => reats_bind hL fun _ => eats_pure _
  simp only [if_neg h10]
  exact eats_pure _
theorem con_less (en : Int) (nm : List ByteArray) (l : List Tok) (x : MCon) (r : List Tok) (h : conP en nm l = .ok x r) : r.length < l.length :=
  skip_less en conW (by decide +kernel) _ (reats_bind (eats_oneOf en conWL) fun k => reats_bind (reats_body en nm k) fun _ => reats_bind (eats_skip en _) fun _ => eats_pure _) l x r h
def conStepR (en : Int) (T : List Tok) (nm : List ByteArray) (p : RP) : MCon × RP := ((conR en T nm (needR en T conW p)).1, needR en T semiW (conR en T nm (needR en T conW p)).2)
theorem conStep_same (en : Int) (T : List Tok) (hT : Solid T) (nm : List ByteArray) (hn : ∀ n ∈ nm, ∀ s : ByteArray, n.data.toList = s.data.toList → isNameB s = true) : Same en T (RD (Apart nm)) (conStepR en T nm) (conP en nm) := by
  have h1 : ∀ c c' : MCon, RD (Apart nm) c c' → Same en T (RD (Apart nm)) (fun p => (c, needR en T semiW p)) (fun l => (skipP en semiW l).bind fun _ l => .ok c' l) := fun c c' hc =>
    needThen semiW (by decide +kernel) (g := fun p => (c, p)) (Q := fun l => .ok c' l) (Same.pure hc)
  have h2 : Same en T (RD (Apart nm)) (fun p => ((conR en T nm p).1, needR en T semiW (conR en T nm p).2)) (fun l => ((oneOfP en conWL l).bind fun k l => bodyP en nm k l).bind fun c l => (skipP en semiW l).bind fun _ l => .ok c l) :=
    (con_same en T hT nm hn).bindS (S := RD (Apart nm)) (g := fun c p => (c, needR en T semiW p)) (Q := fun c l => (skipP en semiW l).bind fun _ l => .ok c l) (fun c p hp => need_still en T semiW p hp) h1
  have h3 := needThen conW (by decide +kernel) h2
  refine ⟨h3.still, fun p hp hk => ?_⟩
  have h4 := h3.same p hp hk
  unfold conP
  have e : ∀ l : List Tok, ((skipP en conW l).bind fun _ l => ((oneOfP en conWL l).bind fun k l => bodyP en nm k l).bind fun c l => (skipP en semiW l).bind fun _ l => .ok c l) = (skipP en conW l).bind fun _ l => (oneOfP en conWL l).bind fun k l => (bodyP en nm k l).bind fun c l => (skipP en semiW l).bind fun _ l => .ok c l := by
    intro l
    cases skipP en conW l with
    | bad x e => rfl
    | ok t r =>
      show ((oneOfP en conWL r).bind fun k l => bodyP en nm k l).bind _ = (oneOfP en conWL r).bind _
      cases oneOfP en conWL r <;> rfl
  rw [← e]
  exact h4
theorem bytes_ext (a b : ByteArray) (h : a.data.toList = b.data.toList) : a = b := by
  cases a with
  | mk x => cases b with
    | mk y =>
      have : x = y := Array.toList_inj.1 h
      rw [this]
theorem newVar_name (en : Int) (l : List Tok) (x : MVar) (r : List Tok) (h : newVarP en l = .ok x r) : isNameB x.name = true := by
  unfold newVarP at h
  obtain ⟨_, _, _, h⟩ := PR.bind_ok h
  obtain ⟨n, q, hn, h⟩ := PR.bind_ok h
  obtain ⟨_, _, _, h⟩ := PR.bind_ok h
  obtain ⟨_, _, _, h⟩ := PR.bind_ok h
  obtain ⟨_, _, _, h⟩ := PR.bind_ok h
  obtain ⟨_, _, _, h⟩ := PR.bind_ok h
  obtain ⟨_, _, _, h⟩ := PR.bind_ok h
  cases h
  unfold newNameP at hn
  obtain ⟨t, q2, h1, h2⟩ := PR.bind_ok hn
  unfold passP at h1
  split at h1
  · rename_i hb
    cases h1
    cases h2
    rw [name_eq] at hb
    exact hb
  · cases h1
theorem row_names (en : Int) : ∀ (f : Nat) (acc : List MVar) (l : List Tok) (xs : List MVar) (r : List Tok), (∀ v ∈ acc, isNameB v.name = true) → rrowP en [118, 97, 114] (newVarP en) f acc l = .ok xs r → ∀ v ∈ xs, isNameB v.name = true
  | 0, _, _, _, _, _, h => by cases h
  | f + 1, acc, l, xs, r, ha, h => by
    unfold rrowP at h
    split at h
    · obtain ⟨v, q, h1, h2⟩ := PR.bind_ok h
      refine row_names en f _ q xs r (fun u hu => ?_) h2
      rcases List.mem_append.1 hu with hu | hu
      · exact ha u hu
      · rw [List.mem_singleton.1 hu]; exact newVar_name en l v q h1
    · cases h; exact ha
def modelR (en : Int) (T : List Tok) (p : RP) : Mod × RP :=
  let v := rowR en T [118, 97, 114] (newVarR en T) (T.length + 2) [] p
  let c := rowR en T [99, 111, 110] (conStepR en T (v.1.map MVar.name)) (T.length + 2) [] v.2
  let g := goalR en T (v.1.map MVar.name) c.2
  (⟨v.1, c.1, g.1.1, g.1.2⟩, if g.2.k < T.length then wrongR 1 g.2 else g.2)
/-- The same, if names differ; the same variables, and as many constraints, in any case. -/
def RM (m m' : Mod) : Prop := m.vars = m'.vars ∧ m.cons.length = m'.cons.length ∧ (Apart (m'.vars.map MVar.name) → m = m')
theorem model_same (en : Int) (T : List Tok) (hT : Solid T) (p : RP) (hp : p.er = 0) (hk : p.k ≤ T.length) : RAgree en T RM (modelR en T p) (modelP en (T.drop p.k)) := by
  unfold modelR modelP
  have hv := rrow_same (D := True) [118, 97, 114] (by decide +kernel) ((newVar_same en T hT).weak True) (fun l x r _ h => newVar_less en l x r h) (T.drop p.k).length p [] [] (T.length + 2) ((T.drop p.k).length + 1) hp hk (Nat.le_refl _) (by rw [List.length_drop]; omega) (Nat.le_refl _) ⟨fun _ => rfl, rfl⟩
  rw [← vars_row] at hv
  generalize hV : rowR en T [118, 97, 114] (newVarR en T) (T.length + 2) [] p = v at hv
  obtain ⟨vs, p1⟩ := v
  dsimp only
  cases hq : varsP en ((T.drop p.k).length + 1) [] (T.drop p.k) with
  | bad pl e =>
    rw [hq] at hv
    obtain ⟨b1, b2, b3, b4⟩ := hv
    dsimp only at b1 b3 b4
    have hne : p1.er ≠ 0 := by rw [b1]; exact b2
    rw [row_stop en T [99, 111, 110] (by decide +kernel) _ _ _ p1 hne]
    have hg : goalR en T (vs.map MVar.name) p1 = ((((goalR en T (vs.map MVar.name) p1).1)), p1) := by
      refine Prod.ext rfl ?_
      show (goalR en T (vs.map MVar.name) p1).2 = p1
      unfold goalR goalEndR
      rw [need_still en T solveW p1 hne, word_still en T p1 hne, if_neg (fun h => hne h.1)]
      exact need_still en T semiW p1 hne
    have hp2 : (if p1.k < T.length then wrongR 1 p1 else p1) = p1 := by split; exact wrong_still 1 p1 hne; rfl
    show _ ∧ _ ∧ _ ∧ _
    dsimp only
    rw [hg]
    dsimp only
    rw [hp2]
    exact ⟨b1, b2, b3, b4⟩
  | ok xs l =>
    rw [hq] at hv
    obtain ⟨a1, a2, a3, a4, _⟩ := hv
    dsimp only at a1 a2 a3 a4
    obtain rfl : vs = xs := a4 trivial
    have hnm : ∀ n ∈ vs.map MVar.name, ∀ s : ByteArray, n.data.toList = s.data.toList → isNameB s = true := by
      intro n hn s hs
      obtain ⟨u, hu, rfl⟩ := List.mem_map.1 hn
      rw [← bytes_ext _ _ hs]
      rw [vars_row] at hq
      exact row_names en _ [] _ vs l (fun _ h => by cases h) hq u hu
    show RAgree en T RM _ ((consP en (vs.map MVar.name) (l.length + 1) [] l).bind _)
    have hc := rrow_same [99, 111, 110] (by decide +kernel) (conStep_same en T hT (vs.map MVar.name) hnm) (fun l x r _ h => con_less en _ l x r h) l.length p1 [] [] (T.length + 2) (l.length + 1) a1 a3 (by rw [a2]; exact Nat.le_refl _) (by rw [← a2, List.length_drop]; omega) (Nat.le_refl _) ⟨fun _ => rfl, rfl⟩
    rw [← cons_row, a2] at hc
    generalize hC : rowR en T [99, 111, 110] (conStepR en T (vs.map MVar.name)) (T.length + 2) [] p1 = c at hc
    obtain ⟨cs, p2⟩ := c
    dsimp only
    cases hq2 : consP en (vs.map MVar.name) (l.length + 1) [] l with
    | bad pl e =>
      rw [hq2] at hc
      obtain ⟨b1, b2, b3, b4⟩ := hc
      dsimp only at b1 b3 b4
      have hne : p2.er ≠ 0 := by rw [b1]; exact b2
      have hg : goalR en T (vs.map MVar.name) p2 = ((((goalR en T (vs.map MVar.name) p2).1)), p2) := by
        refine Prod.ext rfl ?_
        show (goalR en T (vs.map MVar.name) p2).2 = p2
        unfold goalR goalEndR
        rw [need_still en T solveW p2 hne, word_still en T p2 hne, if_neg (fun h => hne h.1)]
        exact need_still en T semiW p2 hne
      have hp2 : (if p2.k < T.length then wrongR 1 p2 else p2) = p2 := by split; exact wrong_still 1 p2 hne; rfl
      show _ ∧ _ ∧ _ ∧ _
      dsimp only
      rw [hg]
      dsimp only
      rw [hp2]
      exact ⟨b1, b2, b3, b4⟩
    | ok ys l2 =>
      rw [hq2] at hc
      obtain ⟨c1, c2, c3, c4, c5⟩ := hc
      dsimp only at c1 c2 c3 c4 c5
      show RAgree en T RM _ ((goalP en (vs.map MVar.name) l2).bind _)
      have hg := (goal_same en T hT (vs.map MVar.name) hnm).same p2 c1 c3
      rw [c2] at hg
      generalize hG : goalR en T (vs.map MVar.name) p2 = g at hg
      obtain ⟨gv, p3⟩ := g
      dsimp only
      cases hq3 : goalP en (vs.map MVar.name) l2 with
      | bad pl e =>
        rw [hq3] at hg
        obtain ⟨b1, b2, b3, b4⟩ := hg
        dsimp only at b1 b3 b4
        have hne : p3.er ≠ 0 := by rw [b1]; exact b2
        have hp2 : (if p3.k < T.length then wrongR 1 p3 else p3) = p3 := by split; exact wrong_still 1 p3 hne; rfl
        show _ ∧ _ ∧ _ ∧ _
        dsimp only
        rw [hp2]
        exact ⟨b1, b2, b3, b4⟩
      | ok gw l3 =>
        rw [hq3] at hg
        obtain ⟨d1, d2, d3, d4⟩ := hg
        dsimp only at d1 d2 d3 d4
        show RAgree en T RM _ (if 0 < l3.length then _ else _)
        by_cases hl : 0 < l3.length
        · have hlt : p3.k < T.length := by rw [← d2, List.length_drop] at hl; omega
          rw [if_pos hl, if_pos hlt]
          have e : wrongR 1 p3 = ⟨p3.k, 1⟩ := by unfold wrongR; rw [if_pos d1]
          rw [e]
          exact ⟨rfl, by omega, by rw [← d2], d3⟩
        · have hlt : ¬ p3.k < T.length := by rw [← d2, List.length_drop] at hl; omega
          rw [if_neg hl, if_neg hlt]
          exact ⟨d1, d2, d3, rfl, c5, fun hA => by rw [c4 hA, d4 hA]⟩
end Go.Proofs.YtdjbejlbmaiocagGreatDoor
/-
  PLAIN: where two names are alike, both readers' models are refused alike; else they are one.
-/
namespace Go.Proofs.YtdjbejlbmaiocagGreatDoor

theorem apart_of (vs : List MVar) (h : varsE vs = 0) : Apart (vs.map MVar.name) := by
  unfold Apart
  rw [List.pairwise_map, List.pairwise_iff_getElem]
  intro i j hi hj hij he
  have h1 := firstE_all _ h (varE (vs.take j) vs[j]) (List.mem_map.2 ⟨j, List.mem_range.2 hj, by rw [List.getD_eq_getElem?_getD, List.getElem?_eq_getElem hj]; rfl⟩)
  unfold varE at h1
  have hany : (vs.take j).any (fun u => u.name.toList == vs[j].name.toList) = true := by
    refine List.any_eq_true.2 ⟨vs[i], ?_, (beq_data _ _).2 he⟩
    exact List.mem_take_iff_getElem.2 ⟨i, by omega, rfl⟩
  rw [hany] at h1
  split at h1
  · rw [if_pos rfl] at h1; cases h1
  · cases h1
theorem check_agree (m m' : Mod) (h : RM m m') : checkM m = checkM m' ∧ (checkM m' = 0 → m = m') := by
  obtain ⟨h1, h2, h3⟩ := h
  by_cases hv : varsE m'.vars = 0
  · have he := h3 (apart_of _ hv)
    exact ⟨by rw [he], fun _ => he⟩
  · have e : checkM m = checkM m' := by
      unfold checkM
      rw [h1, h2, if_neg hv, if_neg hv]
    refine ⟨e, fun h0 => absurd (checkM_vars m' h0).2.2.2.1 hv⟩
end Go.Proofs.YtdjbejlbmaiocagGreatDoor
/-
  PLAIN: tokens as they are scanned are as the readers' agreement wants them.
-/
namespace Go.Proofs.YtdjbejlbmaiocagGreatDoor

theorem tok_solid (s : ByteArray) (j : Nat) (hj : j < s.size) (he : errOf (tokAt s j).kind (tokAt s j).text = 0) : (tokAt s j).kind ≠ 0 ∧ ((tokAt s j).text.toList == ByteArray.empty.toList) = false ∧ ((tokAt s j).kind = 2 ↔ dig0 (tokAt s j).text = true) := by
  have hk0 := kind_of_ok s j he
  have hlj : j < s.data.toList.length := by rw [len_size]; exact hj
  have hgt := endOf_gt _ _ hlj hk0
  have ht : tokAt s j = ⟨kindOf s.data.toList j, j, s.extract j (endOf s.data.toList j)⟩ := by unfold tokAt; rw [if_neg hk0]
  have hx : (s.extract j (endOf s.data.toList j)).data.toList = byteAt s.data.toList j :: (s.data.toList.drop (j + 1)).take (endOf s.data.toList j - j - 1) := by
    rw [extract_list, List.drop_eq_getElem_cons hlj, byteAt_get _ _ hlj]
    obtain ⟨n, hn⟩ : ∃ n, endOf s.data.toList j - j = n + 1 := ⟨endOf s.data.toList j - j - 1, by omega⟩
    rw [hn, List.take_succ_cons]
    simp
  rw [ht]
  refine ⟨by simp only; omega, ?_, ?_⟩
  · show ((s.extract j (endOf s.data.toList j)).toList == ByteArray.empty.toList) = false
    rw [ByteArray.toList_eq, hx]
    cases h : (byteAt s.data.toList j :: (s.data.toList.drop (j + 1)).take (endOf s.data.toList j - j - 1) == ByteArray.empty.toList)
    · rfl
    · have := beq_iff_eq.1 h
      rw [ByteArray.toList_eq] at this
      cases this
  · have hd : dig0 (s.extract j (endOf s.data.toList j)) = isD (byteAt s.data.toList j) := by unfold dig0; rw [hx]
    show ((kindOf s.data.toList j : Nat) : Int) = 2 ↔ dig0 (s.extract j (endOf s.data.toList j)) = true
    rw [hd]
    unfold kindOf
    constructor
    · intro h
      split at h
      · simp at h
      · split at h
        · assumption
        · split at h <;> simp at h
    · intro h
      have hL : isL (byteAt s.data.toList j) = false := by
        cases hq : isL (byteAt s.data.toList j)
        · rfl
        · unfold isL at hq
          unfold isD at h
          simp at hq h
          omega
      rw [hL, h]
      rfl
theorem scanF_solid (s : ByteArray) : ∀ (f k : Nat) (acc : List Tok), Solid acc → Solid (scanF f s k acc).1 := by
  intro f
  induction f with
  | zero => intro k acc h; exact h
  | succ f ih =>
    intro k acc h
    by_cases h4 : skipTo false s.data.toList k < s.size
    · by_cases h5 : errOf (tokAt s (skipTo false s.data.toList k)).kind (tokAt s (skipTo false s.data.toList k)).text = 0
      · rw [scanF_next f s k _ acc rfl h4 h5]
        refine ih _ _ (fun t ht => ?_)
        rcases List.mem_append.1 ht with ht | ht
        · exact h t ht
        · rw [List.mem_singleton.1 ht]; exact tok_solid s _ h4 h5
      · rw [scanF_err f s k _ acc rfl h4 h5]; exact fun t ht => by cases ht
    · rw [scanF_end _ s k acc h4]; exact h
theorem scan_solid (s : ByteArray) : Solid (scanOf s).1 := by
  unfold scanOf
  split
  · exact fun t ht => by cases ht
  · exact scanF_solid s _ _ _ (fun t ht => by cases ht)
end Go.Proofs.YtdjbejlbmaiocagGreatDoor
/-
  WALK: the reference's ScanOf at every text; its reader in memory while it parses: a variable that is being read.
-/
namespace Go.Proofs.YtdjbejlbmaiocagGreatDoor
open Go.RowKit

set_option maxHeartbeats 400000 in
theorem rscan_all (s : ByteArray) (hs : s.size ≤ maxLen) (w : World) :
    Calls Tryz.prog 57 #[.string s] w fun e w' => ∃ v, e = .returned (.tuple #[v, .int .i64 (scanOf s).2.1, .int .i64 (scanOf s).2.2]) ∧
      w'.ownsRow w.heap.size 158 3 v (scanOf s).1.length (toksCells (scanOf s).1) ∧ Below w.heap.size w w' := by
  by_cases h4 : s.size ≤ 4000
  · exact rscan_any s h4 w
  · have e : scanOf s = ([], 0, 2) := by unfold scanOf; rw [if_pos (by omega)]
    rw [e]
    unfold maxLen at hs
    have h5 : 4000 < s.size := by omega
    clear h4 e
    go_enter Tryz.func57, Tryz.ntmps57
    go_wp2
    refine bodyPost_ret (by simp [results, Tryz.results57, go_sem, *]; try rfl) rfl ?_
    exact ⟨.slice none 0 0, rfl, World.ownsRow_nil _ _ _ _, Below.refl _ _⟩

section
variable {c : RC} {p : RP} {w : World}
theorem RSt.field (h : RSt c p w) (c' : RC) (hN : c'.N = c.N) (hR : c'.R = c.R) (hT : c'.T = c.T) (i : Nat) (u : Value) (hnb : c'.NB ≤ w.heap.size)
    (hcs : ∀ v, (#[v, .int .i64 p.k, .int .i64 c.en, .int .i64 p.er, c.vv, c.vc, .int .i64 c.g, .int .i64 c.x] : Array Value).setIfInBounds i u = #[v, .int .i64 p.k, .int .i64 c'.en, .int .i64 p.er, c'.vv, c'.vc, .int .i64 c'.g, .int .i64 c'.x])
    (hnm : NArg c'.R c'.NB (w.setCell ⟨c.R, i, none⟩ u) c'.vv c'.nm) : RSt c' p (w.setCell ⟨c.R, i, none⟩ u) := by
  obtain ⟨h1, h2, hn, h3, hd, h4, v, hb, hTA⟩ := h
  refine ⟨by rw [hN, hR]; exact h1, by rw [hN]; simpa using h2, by simpa using hnb, by rw [hT]; exact h3, by rw [hT]; exact hd, hnm, v, ?_, ?_⟩
  · rw [hR, heap_setCell_same w c.R i _ _ _ hb, hcs v]
  · rw [hN, hT]; exact hTA.old fun q hq => World.cell?_of_block (Below.heap_setCell _ _ _ _ (by show q.block ≠ c.R; omega))
theorem RSt.setVc (h : RSt c p w) (u : Value) : RSt { c with vc := u } p (w.setCell ⟨c.R, 5, none⟩ u) :=
  h.field { c with vc := u } rfl rfl rfl 5 u h.nb (fun _ => rfl) (h.nms.fr h.nb (fr_set _ _ _ _))
theorem RSt.setG (h : RSt c p w) (n : Int) : RSt { c with g := n } p (w.setCell ⟨c.R, 6, none⟩ (.int .i64 n)) :=
  h.field { c with g := n } rfl rfl rfl 6 _ h.nb (fun _ => rfl) (h.nms.fr h.nb (fr_set _ _ _ _))
theorem RSt.setX (h : RSt c p w) (n : Int) : RSt { c with x := n } p (w.setCell ⟨c.R, 7, none⟩ (.int .i64 n)) :=
  h.field { c with x := n } rfl rfl rfl 7 _ h.nb (fun _ => rfl) (h.nms.fr h.nb (fr_set _ _ _ _))
/-- The variables are laid into the reader's model. -/
theorem RSt.setVv (h : RSt c p w) {B : Nat} {o : Value} {vars : List MVar} (ho : w.ownsRow B 71 3 o vars.length (vars.flatMap varC)) : RSt { c with vv := o, nm := vars.map MVar.name, NB := w.heap.size } p (w.setCell ⟨c.R, 4, none⟩ o) := by
  obtain ⟨v9, hb9, _⟩ := h.blk
  refine h.field { c with vv := o, nm := vars.map MVar.name, NB := w.heap.size } rfl rfl rfl 4 _ (Nat.le_refl _) (fun v => rfl) ?_
  obtain ⟨a, cc, hv, hmm, hr⟩ := row_open (own_set ho hb9 (by decide) 4 o)
  refine ⟨a, cc, by simpa using hv, by simpa using hmm, fun i t ht => ?_⟩
  simp only [List.getElem?_map, Option.map_eq_some_iff] at ht
  obtain ⟨z, hz, rfl⟩ := ht
  have hi : i < vars.length := (List.getElem?_eq_some_iff.1 hz).1
  obtain ⟨g, ha, hg, hc⟩ := hr i hi
  have hf := flat_get9 varC 3 (fun _ => rfl) vars i
  refine ⟨g, 0, ha, ?_, by simpa using hg, by rw [Nat.zero_add, hc _ (by omega)]; exact hf 0 z hz (by omega)⟩
  intro e
  have hlt := (own_set ho hb9 (by decide) 4 o)
  rcases hlt.2 with ⟨e1, e2⟩ | ⟨g', cap', cur', hv', _, hh, _⟩
  · omega
  · rw [hv'] at hv
    injection hv with e3
    rw [ha] at e3
    have e4 : g' = g := by injection e3 with e5; injection e5
    rw [e4, e, heap_setCell_same w c.R 4 _ _ _ hb9] at hh
    injection hh with h1
    injection h1 with _ h2
    exact absurd h2 (by decide)
end
/-- A row stays when a block that is not its own is written. -/
theorem own_other {w : World} {B : Nat} {e : TypeId} {size n : Nat} {v : Value} {xs : List Value} (h : w.ownsRow B e size v n xs) {C : Nat} (hC : v.ownBlock ≠ some C) (i : Nat) (u : Value) : (w.setCell ⟨C, i, none⟩ u).ownsRow B e size v n xs := by
  refine ⟨h.1, ?_⟩
  rcases h.2 with hn | ⟨g, cap, cur, hv, hg, hh, r⟩
  · exact .inl hn
  · have hne : g ≠ C := fun e1 => hC (by rw [hv, e1]; rfl)
    exact .inr ⟨g, cap, cur, hv, hg, (Below.heap_setCell _ _ _ _ hne).trans hh, r⟩
/-- While a variable is read. -/
structure VB (c : RC) (W w : World) (p : RP) (b : Nat) (nm : ByteArray) (lo hi : Int) (o : Value) (acc : List MVar) : Prop where
  st : RSt c p w
  fr : Fr (XR9 c.R) W w
  box : w.heap[b]? = some (.cells #[.string nm, .int .i64 lo, .int .i64 hi] 71)
  bW : W.heap.size ≤ b
  Rw : c.R < W.heap.size
  Nw : c.N ≤ W.heap.size
  NBw : c.NB ≤ W.heap.size
  own : w.ownsRow W.heap.size 71 3 o acc.length (acc.flatMap varC)
  ap : o.ownBlock ≠ some b
section
variable {c : RC} {W w w' : World} {p p' : RP} {b : Nat} {nm : ByteArray} {lo hi : Int} {o : Value} {acc : List MVar}
theorem VB.call (h : VB c W w p b nm lo hi o acc) (hf : Fr (XR9 c.R) w w') (hst : RSt c p' w') : VB c W w' p' b nm lo hi o acc :=
  ⟨hst, h.fr.trans hf, (hf.block _ (Array.getElem?_eq_some_iff.1 h.box).1 (by have h1 := h.Rw; have h2 := h.bW; show ¬ _ = _; omega)).trans h.box, h.bW, h.Rw, h.Nw, h.NBw, own_fr h.own hf (fun j hj => by have h1 : j = c.R := hj; rw [h1]; exact h.Rw), h.ap⟩
theorem VB.below (h : VB c W w p b nm lo hi o acc) (hb : Below w.heap.size w w') : VB c W w' p b nm lo hi o acc := h.call (Fr.below hb) (h.st.below hb)
theorem VB.put (h : VB c W w p b nm lo hi o acc) (i : Nat) (u : Value) (lo' hi' : Int) (hcs : (#[.string nm, .int .i64 lo, .int .i64 hi] : Array Value).setIfInBounds i u = #[.string nm, .int .i64 lo', .int .i64 hi']) : VB c W (w.setCell ⟨b, i, none⟩ u) p b nm lo' hi' o acc where
  st := h.st.set (q := ⟨b, i, none⟩) (by have h1 := h.Rw; have h2 := h.bW; show b ≠ c.R; omega) (by have h1 := h.Nw; have h2 := h.bW; show c.N ≤ b; omega) (by have h1 := h.NBw; have h2 := h.bW; show c.NB ≤ b; omega) u
  fr := h.fr.setNew (p := ⟨b, i, none⟩) h.bW u
  box := by rw [heap_setCell_same w _ i _ _ _ h.box, hcs]
  bW := h.bW
  Rw := h.Rw
  Nw := h.Nw
  NBw := h.NBw
  own := own_other h.own h.ap i u
  ap := h.ap
theorem VB.setLo (h : VB c W w p b nm lo hi o acc) (n : Int) : VB c W (w.setCell ⟨b, 1, none⟩ (.int .i64 n)) p b nm n hi o acc := h.put 1 _ n hi rfl
theorem VB.setHi (h : VB c W w p b nm lo hi o acc) (n : Int) : VB c W (w.setCell ⟨b, 2, none⟩ (.int .i64 n)) p b nm lo n o acc := h.put 2 _ lo n rfl
theorem VB.step (h : VB c W w p b nm lo hi o acc) (hk : p.k + 1 ≤ c.T.length) : VB c W (w.setCell ⟨c.R, 1, none⟩ (.int .i64 ((p.k + 1 : Nat) : Int))) ⟨p.k + 1, p.er⟩ b nm lo hi o acc :=
  h.call (fr_set _ _ _ _) (h.st.setAt (p.k + 1) hk)
end
end Go.Proofs.YtdjbejlbmaiocagGreatDoor
