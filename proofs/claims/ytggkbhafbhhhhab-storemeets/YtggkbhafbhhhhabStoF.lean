/-
  WALKS: package store: Begin.
-/
import Derived.Test.YtggkbhafbhhhhabStoE
namespace Go.Proofs.Ytggkbhafbhhhhab
open Go.RowKit

def spanN (lo : Int) (j : Nat) : List Int := (List.range j).map fun (k : Nat) => lo + (k : Int)
theorem spanN_next (lo : Int) (j : Nat) : spanN lo (j + 1) = spanN lo j ++ [lo + j] := by simp [spanN, List.range_succ]
theorem spanN_len (lo : Int) (j : Nat) : (spanN lo j).length = j := by simp [spanN]
theorem spanR_eq (lo hi : Int) : spanR lo hi = spanN lo (hi + 1 - lo).toNat := rfl
theorem checkL_nil (m : Mod) : checkL m [] = checkM m := by
  unfold checkL; simp only [List.map_nil, firstE]
  by_cases h : checkM m = 0
  · rw [if_pos h, h]
  · rw [if_neg h]
def beginA (m : Mod) : Sto × Int := if checkM m = 0 then (beginS m.vars, 0) else ([], checkM m)

set_option maxHeartbeats 1600000 in
set_option maxRecDepth 100000 in
theorem sbegin_any (m : Mod) (vs cs : Value) (w : World) (hm : MArg w vs cs m) :
    Calls Try.prog 6 #[modV vs cs m] w fun e w' => ∃ x, e = .returned (.tuple #[x, .int .i64 (beginA m).2]) ∧ RArg w' x (beginA m).1 ∧ Below w.heap.size w w' := by
  have HMA : Hid (∀ w' : World, Below w.heap.size w w' → MArg w' vs cs m) := fun w' h => MArg.below h hm
  obtain ⟨⟨a1, c1, rfl, hl1, hr1⟩, ⟨a2, c2, rfl, _, _⟩⟩ := hm
  have HV1 : Hid (∀ (i : Nat) (t : MVar), m.vars[i]? = some t → t.name.size ≤ maxLen ∧ ∃ b off, a1 = some ⟨b, off, none⟩ ∧ b < w.heap.size ∧
    w.cell? ⟨b, off + i * 3, none⟩ = some (.string t.name) ∧ w.cell? ⟨b, off + i * 3 + 1, none⟩ = some (.int .i64 t.lo) ∧ w.cell? ⟨b, off + i * 3 + 2, none⟩ = some (.int .i64 t.hi)) := hr1
  unfold maxLen at hl1
  obtain ⟨hl11, hl1⟩ := hl1
  obtain ⟨R, hR⟩ : ∃ R, beginA m = R := ⟨_, rfl⟩
  rw [hR]
  obtain ⟨er, her⟩ : ∃ er, checkM m = er := ⟨_, rfl⟩
  have HER : Hid (checkL m [] = er) := by rw [checkL_nil]; exact her
  have HE : Hid (R = if er = 0 then (beginS m.vars, 0) else ([], er)) := by rw [← hR, ← her]; rfl
  have HOK : Hid (er = 0 → checkM m = 0) := by intro h0; rw [her]; exact h0
  clear hR her hr1
  unfold modV
  go_enter Try.func6, Try.ntmps6
  go_wp2_with fail
  refine (check_any2 m [] (.slice a1 m.vars.length c1) (.slice a2 m.cons.length c2) _ _ ?_ ?_).mono ?_
  · exact HMA.out _ (below_alloc _ _)
  · exact ⟨_, _, rfl, ⟨Nat.le_refl _, Nat.zero_le _⟩, fun i r h => by simp at h⟩
  rintro e w1 ⟨rfl, hb1⟩
  rw [HER.out]
  have HB1 : Hid (Below w.heap.size w w1) := (below_alloc _ _).trans (hb1.mono (by simp))
  have d0 : w1.cell? ⟨w.heap.size, 0, none⟩ = some (.slice a1 m.vars.length c1) := (hb1.cell (by simp)).trans (by simp)
  have hs1 : w.heap.size + 1 ≤ w1.heap.size := by simpa using hb1.size
  clear hb1
  by_cases he : er = 0
  · subst he
    have HOK2 : Hid (checkM m = 0) := HOK.out rfl
    have hn : m.vars.length ≤ 6 := (checkM_vars m HOK2.out).2.1
    have HE2 : Hid (R = (beginS m.vars, 0)) := by rw [HE.out, if_pos rfl]; rfl
    obtain ⟨wm, hrun, hrows, hbm⟩ := make_store m.vars.length hn w1
    have HROWS : Hid (∀ M, SRows wm w1.heap.size w1.heap.size m.vars.length (List.replicate m.vars.length (.slice none 0 0)) M 0) := hrows
    have HBM : Hid (Below w.heap.size w wm) := HB1.out.trans (hbm.mono (by omega))
    have d1 : wm.cell? ⟨w.heap.size, 0, none⟩ = some (.slice a1 m.vars.length c1) := (hbm.cell (p := ⟨w.heap.size, 0, none⟩) (by simp only; omega)).trans d0
    obtain ⟨B, hB⟩ : ∃ B, B = w1.heap.size := ⟨_, rfl⟩
    rw [← hB] at hrun HROWS
    have hBw : w.heap.size ≤ B := by omega
    obtain ⟨i0, hi, hz0, hz1, hz2⟩ := info_parts Try.infoInt
    clear hrows hbm hB hs1
    go_wp2_with fail
    clear hrun d0 d1
    go_loopw [21] (fun i wr => ∃ (k : Nat) (cells : List Value), k ≤ m.vars.length ∧ i = .int .i64 k ∧ SRows wr B B m.vars.length cells (beginS m.vars) k ∧ Below w.heap.size w wr) (fun i _ => m.vars.length - (intOf i).toNat)
    case atStart => exact ⟨0, _, by omega, rfl, HROWS.out _, HBM.out⟩
    case round =>
      obtain ⟨k, cells, hk, rfl, hrow, hbw⟩ := hrel
      have HROW : Hid (SRows wr B B m.vars.length cells (beginS m.vars) k) := hrow
      have HBW : Hid (Below w.heap.size w wr) := hbw
      clear hrow hbw
      by_cases hlt : k < m.vars.length
      · obtain ⟨t, ht⟩ : ∃ t, m.vars[k]? = some t := ⟨m.vars[k], by simp [hlt]⟩
        have HM : Hid ((beginS m.vars)[k]? = some (spanN t.lo (t.hi + 1 - t.lo).toNat)) := by show _ = _; unfold beginS; rw [List.getElem?_map, ht]; rfl
        obtain ⟨hlo, hhi, hlh, h6⟩ := var_ok m HOK2.out k t ht
        obtain ⟨_, b, off, hax, hb, e0, e1, e2⟩ := HV1.out k t ht
        subst hax
        have f0 := (HBW.out.cell (p := ⟨b, off + k * 3, none⟩) hb).trans e0
        have f1 := (HBW.out.cell (p := ⟨b, off + k * 3 + 1, none⟩) hb).trans e1
        have f2 := (HBW.out.cell (p := ⟨b, off + k * 3 + 2, none⟩) hb).trans e2
        have hszb : w.heap.size ≤ wr.heap.size := HBW.out.size
        have HBL : Hid (B < wr.heap.size) := (HROW.out.1.lt B rfl).2
        clear ht e0 e1 e2 hb
        obtain ⟨wx, hwx⟩ : ∃ wx : World, wx = wr.alloc (.cells #[.string t.name, .int .i64 t.lo, .int .i64 t.hi] 61) := ⟨_, rfl⟩
        have HKX : Hid (SRowsIn wx B B m.vars.length cells (beginS m.vars) k wx.heap.size []) := by rw [hwx]; exact (HROW.out.kept (below_alloc _ _)).into hlt
        have HBX : Hid (Below w.heap.size w wx) := by rw [hwx]; exact HBW.out.alloc hszb _
        have HSX : Hid (wx.heap.size = wr.heap.size + 1) := by show _ = _; rw [hwx]; simp
        have HCX : Hid (wx.cell? ⟨wr.heap.size, 2, none⟩ = some (.int .i64 t.hi)) := by rw [hwx]; show _ = _; simp
        have HWX : Hid (wx = wr.alloc (.cells #[.string t.name, .int .i64 t.lo, .int .i64 t.hi] 61)) := hwx
        clear hwx
        obtain ⟨bv, HBV⟩ : ∃ bv, Hid (bv = wr.heap.size) := ⟨_, rfl⟩
        obtain ⟨wo, rfl⟩ : ∃ wo : World, wo = wr := ⟨_, rfl⟩
        go_wp2_with fail
        rw [← HWX.out, ← HBV.out]
        rw [← HBV.out] at HCX HSX HBL
        clear f0 f1 f2 HWX HBV HROW HBW hszb
        obtain ⟨K, hK⟩ : ∃ K, K = wx.heap.size := ⟨_, rfl⟩
        rw [← hK] at HKX
        have hbvK : bv < K := by have := HSX.out; omega
        clear hK
        go_loopw [8] (fun i wr => ∃ (j : Nat) (cells : List Value), t.lo + (j : Int) ≤ t.hi + 1 ∧ i = .int .i64 (t.lo + (j : Int)) ∧ SRowsIn wr B B m.vars.length cells (beginS m.vars) k K (spanN t.lo j) ∧ Below w.heap.size w wr ∧ wr.cell? ⟨bv, 2, none⟩ = some (.int .i64 t.hi)) (fun i _ => (t.hi + 1 - intOf i).toNat)
        case atStart => exact ⟨0, cells, by omega, by simp, HKX.out, HBX.out, HCX.out⟩
        case round =>
          obtain ⟨j, cells, hj, rfl, hin, hbw, hcv⟩ := hrel
          have HIN2 : Hid (SRowsIn wr B B m.vars.length cells (beginS m.vars) k K (spanN t.lo j)) := hin
          have HBW2 : Hid (Below w.heap.size w wr) := hbw
          clear hin hbw
          by_cases hlj : t.lo + (j : Int) ≤ t.hi
          · obtain ⟨z, hz⟩ : ∃ z, z = t.lo + (j : Int) := ⟨_, rfl⟩
            have HZ : Hid (z = t.lo + (j : Int)) := hz
            have hz1' : -50 ≤ z := by omega
            have hz2' : z ≤ t.hi := by omega
            have hz3' : z ≤ 50 := by omega
            have HN : Hid (spanN t.lo (j + 1) = spanN t.lo j ++ [z]) := by rw [hz]; exact spanN_next t.lo j
            obtain ⟨acc, hacc⟩ : ∃ acc, spanN t.lo j = acc := ⟨_, rfl⟩
            have hal : acc.length ≤ 6 := by rw [← hacc, spanN_len]; omega
            rw [hacc] at HN HIN2
            rw [← hz]
            have HJ : Hid (t.lo + ((j + 1 : Nat) : Int) ≤ t.hi + 1) := by show _ ≤ _; omega
            clear hacc hz hlj hj
            obtain ⟨htop, _, ⟨x, hx, hox⟩, _, hBK, hKw, _⟩ := HIN2.out
            obtain ⟨ax, cx, rfl⟩ := own_form hox
            have HX : Hid (cells[k]? = some (.slice ax acc.length cx)) := hx
            have hcx : wr.cell? ⟨B, k, none⟩ = some (.slice ax acc.length cx) := by rw [htop.cellAt k (by omega)]; exact hx
            have hlB : B < wr.heap.size := by omega
            clear hx
            go_wp2_with (at_builtin; refine wpList_append_own _ rfl _ _ 62 rfl K 3 i0 (.int .i64 0) 1 8 Try.underlying62 hi hz0 hz1 hz2 rfl (by decide) _ _ _ rfl (hox.alloc _) ⟨wr.heap.size, 0, none⟩ 1 1 [.int .i64 z] rfl rfl ?c1 ?c2 ?c3 ?c4 ?c5 ?_)
            case c1 => exact one_laid wr z
            case c2 => intro u hu; rcases List.mem_singleton.1 hu with rfl; rfl
            case c3 => unfold maxLen; omega
            case c4 => omega
            case c5 => simp; omega
            intro v3 w3 hown3 hgrow _
            have hown4 : w3.ownsRow K 3 1 v3 (acc ++ [z]).length ((acc ++ [z]).map (Value.int .i64)) := by
              rw [List.length_append, List.map_append]; exact hown3
            have HPUSH : Hid (SRowsIn (w3.setCell ⟨B, k, none⟩ v3) B B m.vars.length (cells.set k v3) (beginS m.vars) k K (acc ++ [z])) := (HIN2.out.kept (below_alloc _ _)).push HX.out hown4 hgrow
            have HB3 : Hid (Below w.heap.size w (w3.setCell ⟨B, k, none⟩ v3)) :=
              ((HBW2.out.alloc HBW2.out.size _).grown hgrow (by have := HBW2.out.size; simp; omega) (fun g h => by have := (hox.lt g h).1; omega)).setCell (by simp only; omega) _
            have ht3 : w3.ownsRow B 62 1 (.slice (some ⟨B, 0, none⟩) m.vars.length m.vars.length) m.vars.length cells := (htop.alloc _).kept hgrow (Or.inr (fun h => by have := (hox.lt B h.symm).1; omega))
            have hcB : w3.cell? ⟨B, k, none⟩ = some (.slice ax acc.length cx) := by rw [ht3.cellAt k (by omega)]; exact HX.out
            have hfB : w3.frozen? ⟨B, k, none⟩ = false := ht3.frozenAt k
            have hc3 : w3.cell? ⟨bv, 2, none⟩ = some (.int .i64 t.hi) := hgrow.cell ((World.cell?_alloc_past _ _ _ (by omega)).trans hcv) (fun h => by have := (hox.lt bv h.symm).1; omega)
            obtain ⟨av, cv, rfl⟩ := own_form hown4
            rw [show (acc ++ [z]).length = acc.length + 1 by simp] at HPUSH HB3
            clear hown3 hgrow hown4 hox hcx htop ht3
            go_wp2
            go_roundw
            case rel => exact ⟨j + 1, _, HJ.out, by rw [HZ.out]; go_num, by rw [HN.out]; exact HPUSH.out, HB3.out, (World.cell?_of_block (Below.heap_setCell _ _ _ _ (by have := HBL.out; simp only; omega))).trans hc3⟩
            case measure => simp [intOf]; omega
          · have HN : Hid (spanN t.lo j = spanN t.lo (t.hi + 1 - t.lo).toNat) := by show _ = _; rw [show j = (t.hi + 1 - t.lo).toNat by omega]
            have HD : Hid (SRows wr B B m.vars.length cells (beginS m.vars) (k + 1)) := HIN2.out.done (by rw [HN.out]; exact HM.out)
            go_wp2
            go_roundw
            case rel => exact ⟨k + 1, cells, by omega, by go_num, HD.out, HBW2.out⟩
            case measure => simp [intOf]; omega
      · have hks : k = m.vars.length := by omega
        have HF : Hid (RArg wr (.slice (some ⟨B, 0, none⟩) m.vars.length m.vars.length) (beginS m.vars)) := by
          have h := HROW.out
          rw [hks] at h
          exact h.rarg (by simp [beginS])
        clear hks
        go_wp2
        go_ret2
        rw [HE2.out]
        exact ⟨_, rfl, HF.out, HBW.out⟩
  · have HN : Hid (R = ([], er)) := by rw [HE.out, if_neg he]; rfl
    have he2 : (er != 0) = true := by simpa using he
    clear he
    go_wp2
    go_ret2
    rw [HN.out]
    exact ⟨_, rfl, ⟨_, _, rfl, ⟨Nat.le_refl _, Nat.zero_le _⟩, fun i r h => by simp at h⟩, HB1.out⟩
end Go.Proofs.Ytggkbhafbhhhhab
