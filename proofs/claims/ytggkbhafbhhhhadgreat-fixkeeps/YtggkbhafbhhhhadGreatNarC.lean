/-
  WALKS: package narrow: size, Till.
-/
import Derived.Test.YtggkbhafbhhhhadGreatFixM
import Derived.Test.YtggkbhafbhhhhadGreatStoE
namespace Go.Proofs.YtggkbhafbhhhhadGreat
open Go.RowKit

def leftM (z : Int) : Nat := if z < 0 then 1000 else z.toNat
theorem left_less (z : Nat) (n : Int) (h : z ≤ 36) (hn : n = -1 ∨ (z : Int) ≤ n) (hne : ¬ n = (z : Int)) : leftM (z : Int) < leftM n := by
  unfold leftM
  rw [if_neg (by omega)]
  split
  · omega
  · omega
def sizeK (s : Sto) (k : Nat) : Nat := sizeS (s.take k)
theorem sizeK_next (s : Sto) (k : Nat) (r : List Int) (h : s[k]? = some r) : sizeK s (k + 1) = sizeK s k + r.length := by
  unfold sizeK sizeS
  rw [List.take_add_one, h, List.map_append, List.sum_append]; simp
theorem sizeK_le (s : Sto) (hr6 : ∀ r ∈ s, r.length ≤ 6) : ∀ k, sizeK s k ≤ 6 * k
  | 0 => by simp [sizeK, sizeS]
  | k + 1 => by
    have ih := sizeK_le s hr6 k
    cases hq : s[k]? with
    | none =>
      have : s.take (k + 1) = s.take k := by rw [List.take_add_one, hq]; simp
      unfold sizeK at ih ⊢
      rw [this]; omega
    | some r =>
      rw [sizeK_next s k r hq]
      have := hr6 r (List.mem_of_getElem? hq)
      omega

set_option maxHeartbeats 800000 in
set_option maxRecDepth 100000 in
theorem size_any (s : Sto) (v : Value) (w : World) (hv : RArg w v s) (hn : s.length ≤ 6) (hr6 : ∀ r ∈ s, r.length ≤ 6) :
    Calls Tryz.prog 55 #[v] w fun e w' => e = .returned (.int .i64 (sizeS s : Nat)) ∧ w' = w := by
  obtain ⟨a, c, rfl, hm, hr⟩ := hv
  have HV : Hid (∀ (i : Nat) (r : List Int), s[i]? = some r → ∃ b off x, a = some ⟨b, off, none⟩ ∧ b < w.heap.size ∧ w.cell? ⟨b, off + i, none⟩ = some x ∧ IArg w x r) := hr
  have HR6 : Hid (∀ r ∈ s, r.length ≤ 6) := hr6
  have HLE : Hid (∀ k, sizeK s k ≤ 6 * k) := sizeK_le s hr6
  obtain ⟨R, hR⟩ : ∃ R, sizeS s = R := ⟨_, rfl⟩
  rw [hR]
  have HR : Hid (sizeS s = R) := hR
  unfold maxLen at hm
  obtain ⟨hm1, hm⟩ := hm
  clear hr hR hr6
  go_enter Tryz.func55, Tryz.ntmps55
  go_wp2_with fail
  go_loop [3, 8] (fun t i => ∃ (k n : Nat), k ≤ s.length ∧ i = .int .i64 k ∧ t = .int .i64 (n : Int) ∧ Hid (sizeK s k = n) ∧ n ≤ 36) (fun _ i => s.length - (intOf i).toNat)
  case atStart => exact ⟨0, 0, by omega, rfl, rfl, rfl, by omega⟩
  case round =>
    obtain ⟨k, n, hk, rfl, rfl, hz, hn36⟩ := hrel
    by_cases hlt : k < s.length
    · obtain ⟨r, hr⟩ : ∃ r, s[k]? = some r := ⟨s[k], by simp [hlt]⟩
      have hr6 := HR6.out r (List.mem_of_getElem? hr)
      obtain ⟨b, off, x, ha, hb, hc, hx⟩ := HV.out k r hr
      obtain ⟨a5, c5, rfl, _, _⟩ := hx
      have HN : Hid (sizeK s (k + 1) = n + r.length) := by show _ = _; rw [sizeK_next s k r hr, hz.out]
      have hle : n + r.length ≤ 36 := by have h := HLE.out (k + 1); rw [HN.out] at h; omega
      subst ha
      clear hr
      go_wp2
      go_round
      case rel => exact ⟨k + 1, n + r.length, by omega, by go_num, by go_num, HN, hle⟩
      case measure => simp [intOf]; omega
    · have HN : Hid (R = n) := by
        have h := hz.out
        unfold sizeK at h
        rw [List.take_of_length_le (by omega), HR.out] at h
        exact h
      go_wp2
      go_ret
      exact ⟨ret_int (by rw [HN.out]), rfl⟩

set_option maxHeartbeats 1600000 in
set_option maxRecDepth 100000 in
theorem till_any (m : Mod) (fs : List (Sto → Sto)) (s : Sto) (v u : Value) (w : World) (hm : checkM m = 0) (hs : checkV m.vars s = 0) (hok : ∀ f ∈ fs, StepOk f)
    (hri : ∀ f ∈ fs, ∀ t, checkV m.vars t = 0 → checkV m.vars (f t) = 0) (hv : RArg w v s) (hu : WArg (fun t => checkV m.vars t = 0) w u fs) :
    Calls Tryz.prog 24 #[v, u] w fun e w' => ∃ x t, e = .returned x ∧ RArg w' x t ∧ Greatest fs s t ∧ checkV m.vars t = 0 ∧ Below w.heap.size w w' := by
  have HM : Hid (checkM m = 0) := hm
  have HS : Hid (checkV m.vars s = 0) := hs
  have HOK : Hid (∀ f ∈ fs, StepOk f) := hok
  have HRI : Hid (∀ f ∈ fs, ∀ t, checkV m.vars t = 0 → checkV m.vars (f t) = 0) := hri
  have HSH : Hid (∀ t : Sto, checkV m.vars t = 0 → t.length ≤ 6 ∧ (∀ r ∈ t, r.length ≤ 6) ∧ sizeS t ≤ 36) := fun t ht => by
    obtain ⟨h1, h2⟩ := rows_short m t hm ht
    refine ⟨h1, h2, ?_⟩
    have h3 := sizeK_le t h2 t.length
    unfold sizeK at h3
    rw [List.take_of_length_le (Nat.le_refl _)] at h3
    omega
  have HV : Hid (RArg w v s) := hv
  obtain ⟨a1, c1, rfl, _, _⟩ := hv
  obtain ⟨a2, c2, rfl, hm2, hr2⟩ := hu
  have HU : Hid (∀ (i : Nat) (f : Sto → Sto), fs[i]? = some f → ∃ b off x, a2 = some ⟨b, off, none⟩ ∧ b < w.heap.size ∧ w.cell? ⟨b, off + i, none⟩ = some x ∧ ByB (fun t => checkV m.vars t = 0) f x w) := hr2
  unfold maxLen at hm2
  obtain ⟨hm21, hm2⟩ := hm2
  clear hm hs hok hri hr2
  go_enter Tryz.func24, Tryz.ntmps24
  go_wp2_with fail
  refine (all_any s _ _ HV.out (HSH.out s HS.out).1 (HSH.out s HS.out).2.1).mono ?_
  rintro e w1 ⟨x, rfl, hx, hb1⟩
  have HX : Hid (RArg w1 x s) := hx
  have HB1 : Hid (Below w.heap.size w w1) := hb1
  obtain ⟨ax, cx, rfl, _, _⟩ := hx
  clear hb1
  go_wp2_with fail
  go_loopw [5, 6] (fun o l wr => ∃ (t : Sto) (a : Option Addr) (c : Nat) (n : Int), o = .slice a t.length c ∧ l = .int .i64 n ∧ Hid (RArg wr (.slice a t.length c) t) ∧ Hid (OnWay fs s t) ∧ Hid (checkV m.vars t = 0) ∧ Hid (n = (sizeS t : Nat) → ∀ f ∈ fs, f t = t) ∧ (n = -1 ∨ ((sizeS t : Nat) : Int) ≤ n) ∧ n ≤ 36 ∧ Below w.heap.size w wr)
    (fun _ l _ => leftM (intOf l))
  case atStart => exact ⟨s, _, _, -1, rfl, rfl, HX, onway_begin fs s, HS, fun h => by omega, Or.inl rfl, by omega, HB1.out⟩
  case round =>
    obtain ⟨t, a, c, n, rfl, rfl, HT, HW, HC, HSA, hn1, hn36, hbw⟩ := hrel
    obtain ⟨q1, q2, q3⟩ := HSH.out t HC.out
    have HQ2 : Hid (∀ r ∈ t, r.length ≤ 6) := q2
    have HBW : Hid (Below w.heap.size w wr) := hbw
    clear q2 hbw
    go_wp2_with fail
    refine (size_any t _ _ HT.out q1 HQ2.out).mono ?_
    rintro e w2 ⟨rfl, rfl⟩
    obtain ⟨z, hz⟩ : ∃ z, sizeS t = z := ⟨_, rfl⟩
    have HZ : Hid (sizeS t = z) := hz
    rw [hz] at hn1 q3 HSA ⊢
    clear hz
    by_cases hnz : n = (z : Int)
    · have HSM : Hid (∀ f ∈ fs, f t = t) := HSA.out hnz
      have g0 : (n != (z : Int)) = false := by simpa using hnz
      have HG : Hid (Greatest fs s (nrmS t)) := till_end HOK.out HW.out HSM.out
      obtain ⟨F, hF⟩ : ∃ F, failedS t = F := ⟨_, rfl⟩
      have HF : Hid (failedS t = F) := hF
      clear hnz hF
      go_wp2_with fail
      refine (sift_failed t _ _ HT.out).mono ?_
      rintro e w3 ⟨rfl, rfl⟩
      rw [HF.out]
      cases F
      · have HN : Hid (nrmS t = t) := by show _ = _; unfold nrmS; rw [HF.out, if_neg (by simp)]
        go_wp2
        go_ret
        exact ⟨_, t, rfl, HT.out, by rw [← HN.out]; exact HG.out, HC.out, HBW.out⟩
      · have HN : Hid (nrmS t = clearS t) := by show _ = _; unfold nrmS; rw [HF.out, if_pos rfl]
        go_wp2_with fail
        refine (none_any t _ _ HT.out q1).mono ?_
        rintro e w4 ⟨y, rfl, hy, hb4⟩
        have HY : Hid (RArg w4 y (clearS t)) := hy
        obtain ⟨ay, cy, rfl, _, _⟩ := hy
        have hB4 := HBW.out.trans (hb4.mono HBW.out.size)
        clear hb4
        go_wp2
        go_ret
        exact ⟨_, clearS t, rfl, HY.out, by rw [← HN.out]; exact HG.out, by rw [← HN.out]; exact checkV_nrm _ _ HC.out, hB4⟩
    · have g0 : (n != (z : Int)) = true := by simpa using hnz
      go_wp2_with fail
      refine (size_any t _ _ HT.out q1 HQ2.out).mono ?_
      rintro e w3 ⟨rfl, rfl⟩
      rw [HZ.out]
      go_wp2_with fail
      go_loopw [5, 19] (fun o i wr => ∃ (k : Nat) (q : Sto) (a : Option Addr) (c : Nat), k ≤ fs.length ∧ i = .int .i64 k ∧ o = .slice a q.length c ∧ Hid (RArg wr (.slice a q.length c) q) ∧ Hid (q = passS (fs.take k) t) ∧ Below w.heap.size w wr) (fun _ i _ => fs.length - (intOf i).toNat)
      case atStart => exact ⟨0, t, a, c, by omega, rfl, rfl, HT, rfl, HBW.out⟩
      case round =>
        obtain ⟨k, q, a, c, hk, rfl, rfl, HQ, HP, hbw⟩ := hrel
        have HBW2 : Hid (Below w.heap.size w wr) := hbw
        clear hbw
        by_cases hlt : k < fs.length
        · obtain ⟨f, hf⟩ : ∃ f, fs[k]? = some f := ⟨fs[k], by simp [hlt]⟩
          obtain ⟨b, off, x, ha, hb, hc0, hby⟩ := HU.out k f hf
          subst ha
          have hc := (HBW2.out.cell (p := ⟨b, off + k, none⟩) hb).trans hc0
          have HNX : Hid (passS (fs.take (k + 1)) t = f q) := by show _ = _; rw [pass_next fs k f t hf, HP.out]
          have HQC : Hid (checkV m.vars q = 0) := by
            rw [HP.out]
            exact checkV_pass _ _ _ (fun g hg => HRI.out g (List.mem_of_mem_take hg)) HC.out
          obtain ⟨F, caps, rfl, hen, hcl⟩ := hby
          have HEN : Hid (∀ (args : Array Value) (w' : World), Sem.run Tryz.prog (callFunc F args) w' = .ok (.enter F args) w') := hen
          have HCL := hcl q (.slice a q.length c) wr HQC.out HBW2.out HQ.out
          have HCLH : Hid (Calls Tryz.prog F (#[.slice a q.length c] ++ caps) wr fun e w'' => ∃ x, e = .returned x ∧ RArg w'' x (f q) ∧ Below wr.heap.size wr w'') := HCL
          clear hf hc0 hen hcl HCL hb
          go_wp2_with fail
          rw [HEN.out, Oper.upon_enter]
          refine HCLH.out.mono ?_
          rintro e w4 ⟨y, rfl, hy, hb4⟩
          obtain ⟨fq, hfq⟩ : ∃ fq, f q = fq := ⟨_, rfl⟩
          rw [hfq] at hy HNX
          have HY : Hid (RArg w4 y fq) := hy
          obtain ⟨ay, cy, rfl, _, _⟩ := hy
          have hB4 := HBW2.out.trans (hb4.mono HBW2.out.size)
          clear hb4 hfq hc
          go_wp2
          go_roundw
          case rel => exact ⟨k + 1, fq, _, _, by omega, by go_num, rfl, HY, HNX.out.symm, hB4⟩
          case measure => simp [intOf]; omega
        · have HPE : Hid (q = passS fs t) := by
            have h := HP.out
            rwa [List.take_of_length_le (by omega)] at h
          have HR : Hid (RowSub q t) := by rw [HPE.out]; exact pass_row fs t HOK.out
          have hle : sizeS q ≤ z := by rw [← HZ.out]; exact (row_size _ _ HR.out).1
          go_wp2
          go_roundw
          case rel =>
            refine ⟨q, a, c, (z : Int), rfl, rfl, HQ, ?_, ?_, ?_, Or.inr (by omega), by omega, HBW2.out⟩
            · rw [HPE.out]; exact onway_pass fs t (fun f hf => ⟨hf, HOK.out f hf⟩) HW.out
            · rw [HPE.out]; exact checkV_pass _ _ _ HRI.out HC.out
            · intro he
              have he2 : sizeS q = sizeS t := by rw [HZ.out]; omega
              have hqt : q = t := (row_size _ _ HR.out).2 he2
              rw [hqt]
              exact pass_same fs t HOK.out (by rw [← HPE.out]; exact he2)
          case measure =>
            have hlt : leftM (z : Int) < leftM n := left_less z n (by omega) (by omega) (by omega)
            simpa [intOf] using hlt
end Go.Proofs.YtggkbhafbhhhhadGreat
