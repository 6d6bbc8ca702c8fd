/-
  WALK: package text: the reader: number.
-/
import Derived.Test.YtggkbhafbhhhhabGreatDoorTxtC
import Derived.Test.YtggkbhafbhhhhabGreatDoorTxtLib
import Derived.Lib.AtoiErrMem
namespace Go.Proofs.YtggkbhafbhhhhabGreatDoor
open Go.RowKit

theorem digit_val (c : UInt8) (h : 48 ≤ c.toNat ∧ c.toNat ≤ 57) : Lib.digitVal c = some (c.toNat - 48) := by
  unfold Lib.digitVal
  simp [h.1, h.2]
theorem decFrom_dig : ∀ (l : List UInt8) (n : Nat), (∀ c ∈ l, 48 ≤ c.toNat ∧ c.toNat ≤ 57) → ∃ k : Nat, Lib.decFrom n l = some k ∧ l.foldl (fun n c => n * 10 + ((c.toNat : Int) - 48)) (n : Int) = (k : Int)
  | [], n, _ => ⟨n, by simp [Lib.decFrom], rfl⟩
  | c :: l, n, h => by
    have hc := h c (List.mem_cons_self ..)
    obtain ⟨k, h1, h2⟩ := decFrom_dig l (n * 10 + (c.toNat - 48)) fun d hd => h d (List.mem_cons_of_mem _ hd)
    refine ⟨k, ?_, ?_⟩
    · rw [Lib.decFrom, digit_val c hc]; exact h1
    · simp only [List.foldl_cons]
      rw [← h2]
      congr 1
      omega
theorem atoi_dig (l : List UInt8) (h0 : l ≠ []) (h : ∀ c ∈ l, 48 ≤ c.toNat ∧ c.toNat ≤ 57) : Lib.atoi l = some (digV l) := by
  obtain ⟨k, h1, h2⟩ := decFrom_dig l 0 h
  have hd : Lib.decNat l = some k := by
    unfold Lib.decNat
    cases l with
    | nil => exact absurd rfl h0
    | cons a l => simpa using h1
  have hv : digV l = (k : Int) := h2
  rw [hv]
  cases l with
  | nil => exact absurd rfl h0
  | cons a l =>
    have ha := h a (List.mem_cons_self ..)
    have e1 : (a == 45) = false := by
      rw [beq_eq_false_iff_ne]
      intro e
      subst e
      exact absurd ha.1 (by decide)
    have e2 : (a == 43) = false := by
      rw [beq_eq_false_iff_ne]
      intro e
      subst e
      exact absurd ha.1 (by decide)
    simp only [Lib.atoi]
    rw [e1, e2, if_neg (by simp), if_neg (by simp), hd]
    rfl
theorem digV_bound (l : List UInt8) (h4 : l.length ≤ 4) (h : ∀ c ∈ l, 48 ≤ c.toNat ∧ c.toNat ≤ 57) : 0 ≤ digV l ∧ digV l ≤ 9999 := by
  unfold digV
  match l, h4 with
  | [], _ => simp
  | [a], _ => have := h a (by simp); simp; omega
  | [a, b], _ => have := h a (by simp); have := h b (by simp); simp; omega
  | [a, b, c], _ => have := h a (by simp); have := h b (by simp); have := h c (by simp); simp; omega
  | [a, b, c, d], _ => have := h a (by simp); have := h b (by simp); have := h c (by simp); have := h d (by simp); simp; omega
theorem atoi_any (s : ByteArray) (h1 : 1 ≤ s.size ∧ s.size ≤ 4) (hd : ∀ c ∈ s.data.toList, 48 ≤ c.toNat ∧ c.toNat ≤ 57) (w : World) :
    Calls Tryz.prog 116 #[.string s] w fun e w' => e = .returned (.tuple #[.int .i64 (digV s.data.toList), .nilIface]) ∧ Below w.heap.size w w' := by
  have hne : s.data.toList ≠ [] := by
    intro e
    have : s.data.toList.length = 0 := by rw [e]; rfl
    have h2 : s.data.toList.length = s.size := Array.length_toList
    omega
  refine (Tryz.strconv_Atoi s _ (by omega) (atoi_dig _ hne hd) w).mono ?_
  rintro e w' ⟨rfl, t, rfl⟩
  exact ⟨rfl, Lib.bytesWorld_below _ _ _⟩
theorem head_ok {N R M : Nat} {en : Int} {w : World} {l : List Tok} (h : Rd N R M en w l) (hk : (headT en l).kind = 2) : (1 ≤ (headT en l).text.size ∧ (headT en l).text.size ≤ 4) ∧ ∀ c ∈ (headT en l).text.data.toList, 48 ≤ c.toNat ∧ c.toNat ≤ 57 := by
  obtain ⟨_, v, _, _, _, _, _, ht, _⟩ := h
  cases l with
  | nil => exact absurd hk (by show ¬ (0 : Int) = 2; decide)
  | cons t r => exact (ht.2 t (List.mem_cons_self ..)).2 hk
theorem kind_some {en : Int} {l : List Tok} (h : ((headT en l).kind == 2) = true) : l ≠ [] := by
  intro hl
  subst hl
  have h2 : ((0 : Int) == 2) = true := h
  simp at h2

theorem solid_minus : solid ⟨#[45]⟩ := by unfold solid; simp [go_sem]
set_option maxHeartbeats 1600000 in
set_option maxRecDepth 100000 in
theorem number_any (N R M : Nat) (en : Int) (w : World) (l : List Tok) (h : Rd N R M en w l) :
    Calls Tryz.prog 97 #[.pointer (some ⟨R, 0, none⟩)] w (PostR (numberP en l) (fun i v _ => v = .int .i64 i ∧ -9999 ≤ i ∧ i ≤ 9999) N R M en (fun k => k = R) w) := by
  have hf2 := tokF2 (headT en l)
  have hf0 := tokF0 (headT en l)
  have HB : Hid (Rd N R M en w l) := h
  obtain ⟨P, hP⟩ : ∃ P, numberP en l = P := ⟨_, rfl⟩
  have HP : Hid (numberP en l = P) := hP
  rw [hP]
  cases hm : ((headT en l).text.toList == [45])
  · have HM : Hid (((headT en l).text.toList == [45]) = false) := hm
    cases hK : ((headT en l).kind == 2)
    · have HP2 : Hid (P = (passP en false l).bind fun t r => .ok (1 * digV t.text.data.toList) r) := by show _ = _; rw [← hP]; unfold numberP; rw [hm, hK]; rfl
      clear hP h
      go_enter Tryz.func97, Tryz.ntmps97
      go_wp2_with fail
      refine (ahead_any N R M en _ l HB.out).mono ?_
      rintro e w1 ⟨rfl, hb1⟩
      have HR1 : Hid (Rd N R M en w1 l) := HB.out.below hb1
      have HF1 : Hid (Fr (fun k => k = R) w w1) := Fr.below hb1
      unfold tokA
      clear hb1
      go_wp2_with fail
      refine (ahead_any N R M en _ l HR1.out).mono ?_
      rintro e w2 ⟨rfl, hb2⟩
      have HR2 : Hid (Rd N R M en w2 l) := HR1.out.below hb2
      have HF2 : Hid (Fr (fun k => k = R) w w2) := HF1.out.trans (Fr.below hb2)
      unfold tokA
      clear hb2 hm
      go_wp2_with fail
      refine (pass_any N R M en false w2 l HR2.out (fun hb => by cases hb)).mono ?_
      intro e w3 hp
      obtain ⟨rfl, hfr⟩ := hp
      have hfr2 := HF2.out.trans hfr
      go_wp2
      exact ⟨rfl, by rw [HP2.out]; exact ⟨rfl, hfr2⟩⟩
    · have HP2 : Hid (P = (passP en true l).bind fun t r => .ok (1 * digV t.text.data.toList) r) := by show _ = _; rw [← hP]; unfold numberP; rw [hm, hK]; rfl
      have HL : Hid (l ≠ []) := kind_some hK
      obtain ⟨hd1, hd2⟩ := head_ok h (by simpa using hK)
      have HD2 : Hid (∀ c ∈ (headT en l).text.data.toList, 48 ≤ c.toNat ∧ c.toNat ≤ 57) := hd2
      have HD1 : Hid (1 ≤ (headT en l).text.size ∧ (headT en l).text.size ≤ 4) := hd1
      clear hP h hd1 hd2
      go_enter Tryz.func97, Tryz.ntmps97
      go_wp2_with fail
      refine (ahead_any N R M en _ l HB.out).mono ?_
      rintro e w1 ⟨rfl, hb1⟩
      have HR1 : Hid (Rd N R M en w1 l) := HB.out.below hb1
      have HF1 : Hid (Fr (fun k => k = R) w w1) := Fr.below hb1
      unfold tokA
      clear hb1
      go_wp2_with fail
      refine (ahead_any N R M en _ l HR1.out).mono ?_
      rintro e w2 ⟨rfl, hb2⟩
      have HR2 : Hid (Rd N R M en w2 l) := HR1.out.below hb2
      have HF2 : Hid (Fr (fun k => k = R) w w2) := HF1.out.trans (Fr.below hb2)
      unfold tokA
      clear hb2 hm
      go_wp2_with fail
      refine (pass_any N R M en true w2 l HR2.out (fun _ => HL.out)).mono ?_
      intro e w3 hp
      obtain ⟨v, rfl, rfl, hrd, hfr⟩ := hp
      have HFR : Hid (Fr (fun k => k = R) w w3) := HF2.out.trans hfr
      have HRD : Hid (Rd N R M en w3 l.tail) := hrd
      clear hfr hrd
      unfold tokA
      go_wp2_with fail
      refine (atoi_any _ HD1.out HD2.out _).mono ?_
      rintro e w4 ⟨rfl, hb4⟩
      obtain ⟨hv1, hv2⟩ := digV_bound (headT en l).text.data.toList (by have := HD1.out.2; have h2 : (headT en l).text.data.toList.length = (headT en l).text.size := Array.length_toList; omega) HD2.out
      obtain ⟨V, hV⟩ : ∃ V, digV (headT en l).text.data.toList = V := ⟨_, rfl⟩
      have HV : Hid (digV (headT en l).text.data.toList = V) := hV
      rw [hV] at hv1 hv2 ⊢
      have HR4 : Hid (Rd N R M en w4 l.tail) := HRD.out.below hb4
      have HF4 : Hid (Fr (fun k => k = R) w w4) := HFR.out.trans (Fr.below hb4)
      clear hb4 hV
      go_wp2
      go_ret
      rw [HP2.out]
      exact ⟨_, rfl, ⟨by rw [HV.out, Int.one_mul]; rfl, by rw [HV.out]; omega, by rw [HV.out]; omega⟩, HR4.out, HF4.out⟩
  · have hmin : (⟨#[45]⟩ : ByteArray).toList = [45] := by simp [go_sem]
    have HSK : Hid (skipP en ⟨#[45]⟩ l = .ok (headT en l) l.tail) := by show _ = _; unfold skipP passP; rw [hmin, hm]; rfl
    obtain ⟨q, hq⟩ : ∃ q, l.tail = q := ⟨_, rfl⟩
    have HQ : Hid (l.tail = q) := hq
    have hg2 := tokF2 (headT en q)
    have hg0 := tokF0 (headT en q)
    have HOKQ : Hid (∀ t ∈ q, TokOk t) := by
      obtain ⟨_, v, _, _, _, _, _, ht, _⟩ := h
      intro t htq
      rw [← hq] at htq
      exact ht.2 t (List.mem_of_mem_tail htq)
    have HPQ : Hid (P = (passP en (((headT en q).kind == 2) && (!((headT en q).text.toList == [48]))) q).bind fun t r => .ok (-1 * digV t.text.data.toList) r) := by
      show _ = _; rw [← hP]; unfold numberP; rw [hm, if_pos rfl, HSK.out, ← hq]; rfl
    clear hP h hq hmin
    go_enter Tryz.func97, Tryz.ntmps97
    go_wp2_with fail
    refine (ahead_any N R M en _ l HB.out).mono ?_
    rintro e w1 ⟨rfl, hb1⟩
    have HR1 : Hid (Rd N R M en w1 l) := HB.out.below hb1
    have HF1 : Hid (Fr (fun k => k = R) w w1) := Fr.below hb1
    unfold tokA
    clear hb1
    go_wp2_with fail
    refine (rskip_any N R M en ⟨#[45]⟩ solid_minus w1 l HR1.out).mono ?_
    intro e w2 hp
    rw [HSK.out] at hp
    obtain ⟨v, rfl, rfl, hrd, hfr⟩ := hp
    have HR2 : Hid (Rd N R M en w2 q) := by rw [← HQ.out]; exact hrd
    have HF2 : Hid (Fr (fun k => k = R) w w2) := HF1.out.trans hfr
    clear hrd hfr hm hf0 hf2
    cases hK : ((headT en q).kind == 2)
    · have HP2 : Hid (P = (passP en false q).bind fun t r => .ok (-1 * digV t.text.data.toList) r) := by show _ = _; rw [HPQ.out, hK]; rfl
      go_wp2_with fail
      refine (ahead_any N R M en _ q HR2.out).mono ?_
      rintro e w3 ⟨rfl, hb3⟩
      have HR3 : Hid (Rd N R M en w3 q) := HR2.out.below hb3
      have HF3 : Hid (Fr (fun k => k = R) w w3) := HF2.out.trans (Fr.below hb3)
      unfold tokA
      clear hb3
      go_wp2_with fail
      refine (pass_any N R M en false w3 q HR3.out (fun hb => by cases hb)).mono ?_
      intro e w4 hp
      obtain ⟨rfl, hfr⟩ := hp
      have hfr2 := HF3.out.trans hfr
      go_wp2
      exact ⟨rfl, by rw [HP2.out]; exact ⟨rfl, hfr2⟩⟩
    · have HL : Hid (q ≠ []) := kind_some hK
      have hd : (1 ≤ (headT en q).text.size ∧ (headT en q).text.size ≤ 4) ∧ ∀ c ∈ (headT en q).text.data.toList, 48 ≤ c.toNat ∧ c.toNat ≤ 57 := head_ok HR2.out (by simpa using hK)
      have HD2 : Hid (∀ c ∈ (headT en q).text.data.toList, 48 ≤ c.toNat ∧ c.toNat ≤ 57) := hd.2
      have HD1 : Hid (1 ≤ (headT en q).text.size ∧ (headT en q).text.size ≤ 4) := hd.1
      clear hd
      cases hz : ((headT en q).text.toList == [48])
      rotate_left
      · have HP2 : Hid (P = (passP en false q).bind fun t r => .ok (-1 * digV t.text.data.toList) r) := by show _ = _; rw [HPQ.out, hK, hz]; rfl
        go_wp2_with fail
        refine (ahead_any N R M en _ q HR2.out).mono ?_
        rintro e w3 ⟨rfl, hb3⟩
        have HR3 : Hid (Rd N R M en w3 q) := HR2.out.below hb3
        have HF3 : Hid (Fr (fun k => k = R) w w3) := HF2.out.trans (Fr.below hb3)
        unfold tokA
        clear hb3
        go_wp2_with fail
        refine (ahead_any N R M en _ q HR3.out).mono ?_
        rintro e w4 ⟨rfl, hb4⟩
        have HR4 : Hid (Rd N R M en w4 q) := HR3.out.below hb4
        have HF4 : Hid (Fr (fun k => k = R) w w4) := HF3.out.trans (Fr.below hb4)
        unfold tokA
        clear hb4
        go_wp2_with fail
        refine (pass_any N R M en false w4 q HR4.out (fun hb => by cases hb)).mono ?_
        intro e w5 hp
        obtain ⟨rfl, hfr⟩ := hp
        have hfr2 := HF4.out.trans hfr
        go_wp2
        exact ⟨rfl, by rw [HP2.out]; exact ⟨rfl, hfr2⟩⟩
      · have HP2 : Hid (P = (passP en true q).bind fun t r => .ok (-1 * digV t.text.data.toList) r) := by show _ = _; rw [HPQ.out, hK, hz]; rfl
        go_wp2_with fail
        refine (ahead_any N R M en _ q HR2.out).mono ?_
        rintro e w3 ⟨rfl, hb3⟩
        have HR3 : Hid (Rd N R M en w3 q) := HR2.out.below hb3
        have HF3 : Hid (Fr (fun k => k = R) w w3) := HF2.out.trans (Fr.below hb3)
        unfold tokA
        clear hb3
        go_wp2_with fail
        refine (ahead_any N R M en _ q HR3.out).mono ?_
        rintro e w4 ⟨rfl, hb4⟩
        have HR4 : Hid (Rd N R M en w4 q) := HR3.out.below hb4
        have HF4 : Hid (Fr (fun k => k = R) w w4) := HF3.out.trans (Fr.below hb4)
        unfold tokA
        clear hb4
        go_wp2_with fail
        refine (pass_any N R M en true w4 q HR4.out (fun _ => HL.out)).mono ?_
        intro e w5 hp
        obtain ⟨v, rfl, rfl, hrd, hfr⟩ := hp
        have HFR : Hid (Fr (fun k => k = R) w w5) := HF4.out.trans hfr
        have HRD : Hid (Rd N R M en w5 q.tail) := hrd
        clear hfr hrd
        unfold tokA
        go_wp2_with fail
        refine (atoi_any _ HD1.out HD2.out _).mono ?_
        rintro e w6 ⟨rfl, hb6⟩
        obtain ⟨hv1, hv2⟩ := digV_bound (headT en q).text.data.toList (by have := HD1.out.2; have h2 : (headT en q).text.data.toList.length = (headT en q).text.size := Array.length_toList; omega) HD2.out
        obtain ⟨V, hV⟩ : ∃ V, digV (headT en q).text.data.toList = V := ⟨_, rfl⟩
        have HV : Hid (digV (headT en q).text.data.toList = V) := hV
        rw [hV] at hv1 hv2 ⊢
        have HR6 : Hid (Rd N R M en w6 q.tail) := HRD.out.below hb6
        have HF6 : Hid (Fr (fun k => k = R) w w6) := HFR.out.trans (Fr.below hb6)
        clear hb6 hV
        go_wp2
        go_ret
        rw [HP2.out]
        exact ⟨_, rfl, ⟨by rw [HV.out]; first | rfl | (rw [Int.neg_one_mul]; rfl), by rw [HV.out]; omega, by rw [HV.out]; omega⟩, HR6.out, HF6.out⟩
end Go.Proofs.YtggkbhafbhhhhabGreatDoor
