/-
  WALKS: package text: the reader: isName, newName, oneOf; the words.
-/
import Derived.Test.YtggkbhafbhhhhabGreatDoorTxtB
namespace Go.Proofs.YtggkbhafbhhhhabGreatDoor
open Go.RowKit

theorem one_var_arg (w : World) (s : ByteArray) (hs : s.size ≤ maxLen) : MArg (w.alloc (.cells #[.string s, .int .i64 0, .int .i64 0] 47)) (.slice (some ⟨w.heap.size, 0, none⟩) 1 1) (.slice none 0 0) ⟨[⟨s, 0, 0⟩], [], 0, 0⟩ := by
  refine ⟨⟨_, 1, rfl, ⟨Nat.le_refl _, by unfold maxLen; omega⟩, fun i t ht => ?_⟩, ⟨none, 0, rfl, ⟨Nat.le_refl _, Nat.zero_le _⟩, fun i t ht => by simp at ht⟩⟩
  match i, ht with
  | 0, ht =>
    cases ht
    exact ⟨hs, _, 0, rfl, by simp, World.cell?_alloc_at _ _ _ 0 (by simp), World.cell?_alloc_at _ _ _ 1 (by simp), World.cell?_alloc_at _ _ _ 2 (by simp)⟩

set_option maxHeartbeats 800000 in
set_option maxRecDepth 100000 in
theorem risname_any (s : ByteArray) (hs : s.size ≤ maxLen) (w : World) :
    Calls Tryz.prog 115 #[.string s] w fun e w' => e = .returned (.bool (nameB s)) ∧ Below w.heap.size w w' := by
  obtain ⟨er, her⟩ : ∃ er, checkM ⟨[⟨s, 0, 0⟩], [], 0, 0⟩ = er := ⟨_, rfl⟩
  have HER : Hid (checkM ⟨[⟨s, 0, 0⟩], [], 0, 0⟩ = er) := her
  have HN : Hid (nameB s = (er == 0)) := by show _ = _; unfold nameB; rw [her]
  rw [HN.out]
  have HA : Hid (MArg (w.alloc (.cells #[.string s, .int .i64 0, .int .i64 0] 47)) (.slice (some ⟨w.heap.size, 0, none⟩) 1 1) (.slice none 0 0) ⟨[⟨s, 0, 0⟩], [], 0, 0⟩) := one_var_arg w s hs
  clear her hs
  go_enter Tryz.func115, Tryz.ntmps115
  go_wp2_with fail
  refine (show Calls Tryz.prog 15 #[.agg #[.slice (some ⟨w.heap.size, 0, none⟩) 1 1, .slice none 0 0, .int .i64 0, .int .i64 0]] _ _ from check_model ⟨[⟨s, 0, 0⟩], [], 0, 0⟩ _ _ _ HA.out).mono ?_
  rintro e w1 ⟨rfl, hb1⟩
  rw [HER.out]
  have hb2 : Below w.heap.size w w1 := (below_alloc _ _).trans (hb1.mono (by simp))
  clear hb1
  go_wp2
  go_ret
  exact ⟨rfl, hb2⟩
theorem name_empty : nameB ByteArray.empty = false := by kernel_rfl
theorem head_size {N R M : Nat} {en : Int} {w : World} {l : List Tok} (h : Rd N R M en w l) : (headT en l).text.size ≤ maxLen := by
  obtain ⟨_, v, _, _, _, _, _, ht, _⟩ := h
  cases l with
  | nil => show ByteArray.empty.size ≤ maxLen; exact Nat.zero_le _
  | cons t r => have := (ht.2 t (List.mem_cons_self ..)).1; show t.text.size ≤ maxLen; unfold maxLen; omega

set_option maxHeartbeats 800000 in
set_option maxRecDepth 100000 in
theorem newname_any (N R M : Nat) (en : Int) (w : World) (l : List Tok) (h : Rd N R M en w l) :
    Calls Tryz.prog 96 #[.pointer (some ⟨R, 0, none⟩)] w (PostR (newNameP en l) (fun s v _ => v = .string s ∧ s.size ≤ maxLen) N R M en (fun k => k = R) w) := by
  have hf2 := tokF2 (headT en l)
  have HB : Hid (Rd N R M en w l) := h
  have hsz := head_size h
  obtain ⟨B, hB⟩ : ∃ B, nameB (headT en l).text = B := ⟨_, rfl⟩
  have HBB : Hid (nameB (headT en l).text = B) := hB
  have HP : Hid (newNameP en l = (passP en B l).bind fun t r => .ok t.text r) := by show _ = _; unfold newNameP; rw [hB]
  have HL : Hid (B = true → l ≠ []) := by
    intro hb hl
    subst hl
    rw [hb] at hB
    have h2 : nameB ByteArray.empty = true := hB
    rw [name_empty] at h2; cases h2
  have HSZ : Hid ((headT en l).text.size ≤ maxLen) := hsz
  rw [HP.out]
  clear hB hsz h
  go_enter Tryz.func96, Tryz.ntmps96
  go_wp2_with fail
  refine (ahead_any N R M en _ l HB.out).mono ?_
  rintro e w1 ⟨rfl, hb1⟩
  have HR1 : Hid (Rd N R M en w1 l) := HB.out.below hb1
  have HF1 : Hid (Fr (fun k => k = R) w w1) := Fr.below hb1
  unfold tokA
  clear hb1
  go_wp2_with fail
  refine (risname_any _ HSZ.out _).mono ?_
  rintro e w2 ⟨rfl, hb2⟩
  rw [HBB.out]
  have HR2 : Hid (Rd N R M en w2 l) := HR1.out.below hb2
  have HF2 : Hid (Fr (fun k => k = R) w w2) := HF1.out.trans (Fr.below hb2)
  clear hb2 hf2
  go_wp2_with fail
  refine (pass_any N R M en B w2 l HR2.out HL.out).mono ?_
  intro e w3 hp
  have HP2 : Hid (PostR (passP en B l) (fun t v _ => v = tokA t) N R M en (fun k => k = R) w e w3) := hp.fr HF2.out
  clear hp
  cases B
  · obtain ⟨rfl, hfr⟩ := HP2.out
    go_wp2
    exact ⟨rfl, rfl, hfr⟩
  · obtain ⟨v, rfl, rfl, hrd, hfr⟩ := HP2.out
    have hf2 := tokF2 (headT en l)
    unfold tokA
    go_wp2
    go_ret
    exact ⟨_, rfl, ⟨rfl, HSZ.out⟩, hrd, hfr⟩

/-- A list of strings. -/
def SArg (w : World) (v : Value) (l : List ByteArray) : Prop :=
  ∃ a c, v = .slice a l.length c ∧ (l.length ≤ c ∧ c ≤ maxLen) ∧ ∀ (i : Nat) (z : ByteArray), l[i]? = some z → ∃ b off, a = some ⟨b, off, none⟩ ∧ b < w.heap.size ∧ w.cell? ⟨b, off + i, none⟩ = some (.string z)
theorem SArg.below {w w' : World} {v : Value} {l : List ByteArray} (hb : Below w.heap.size w w') (h : SArg w v l) : SArg w' v l := by
  obtain ⟨a, c, hv, hm, hr⟩ := h
  refine ⟨a, c, hv, hm, fun i z hz => ?_⟩
  obtain ⟨b, off, ha, hlt, hc⟩ := hr i z hz
  exact ⟨b, off, ha, Nat.lt_of_lt_of_le hlt hb.size, (hb.cell (p := ⟨b, off + i, none⟩) hlt).trans hc⟩
theorem idx_hit (l : List ByteArray) (n : ByteArray) (m : Nat) (z : ByteArray) (hz : l[m]? = some z) (h : (n.toList == z.toList) = true) : idxA (l.drop m) n m = (m : Int) := by
  have hm : m < l.length := (List.getElem?_eq_some_iff.1 hz).1
  rw [List.drop_eq_getElem_cons hm]
  have : l[m] = z := by rw [List.getElem?_eq_getElem hm] at hz; exact Option.some.inj hz
  rw [this, idxA, h, if_pos rfl]
theorem idx_miss (l : List ByteArray) (n : ByteArray) (m : Nat) (z : ByteArray) (hz : l[m]? = some z) (h : (n.toList == z.toList) = false) : idxA (l.drop m) n m = idxA (l.drop (m + 1)) n (m + 1) := by
  have hm : m < l.length := (List.getElem?_eq_some_iff.1 hz).1
  rw [List.drop_eq_getElem_cons hm]
  have : l[m] = z := by rw [List.getElem?_eq_getElem hm] at hz; exact Option.some.inj hz
  rw [this, idxA, h, if_neg (by simp)]

set_option maxHeartbeats 400000 in
set_option maxRecDepth 100000 in
theorem index_strs (l : List ByteArray) (v : Value) (n : ByteArray) (w : World) (hv : SArg w v l) :
    Calls Tryz.prog 117 #[v, .string n] w fun e w' => e = .returned (.int .i64 (idxA l n 0)) ∧ w' = w := by
  obtain ⟨a, c, rfl, hm, hr⟩ := hv
  have HV : Hid (∀ (i : Nat) (z : ByteArray), l[i]? = some z → ∃ b off, a = some ⟨b, off, none⟩ ∧ b < w.heap.size ∧ w.cell? ⟨b, off + i, none⟩ = some (.string z)) := hr
  obtain ⟨R, hR⟩ : ∃ R, idxA l n 0 = R := ⟨_, rfl⟩
  rw [hR]
  have HR : Hid (idxA l n 0 = R) := hR
  unfold maxLen at hm
  obtain ⟨hm1, hm⟩ := hm
  clear hr hR
  go_enter Tryz.func117, Tryz.ntmps117
  go_wp2_with fail
  go_loop [8] (fun i => ∃ m : Nat, m ≤ l.length ∧ i = .int .i64 m ∧ Hid (idxA (l.drop m) n m = R)) (fun i => l.length - (intOf i).toNat)
  case atStart => exact ⟨0, by omega, rfl, HR⟩
  case round =>
    obtain ⟨m, hml, rfl, hall⟩ := hrel
    by_cases hlt : m < l.length
    · obtain ⟨z, hz⟩ : ∃ z, l[m]? = some z := ⟨l[m], by simp [hlt]⟩
      obtain ⟨b, off, ha, hb, hc⟩ := HV.out m z hz
      have HZ : Hid (l[m]? = some z) := hz
      subst ha
      clear hz
      cases hq : (n.toList == z.toList)
      · have HN : Hid (idxA (l.drop (m + 1)) n (m + 1) = R) := by show _ = _; rw [← idx_miss l n m z HZ.out hq]; exact hall.out
        go_wp2
        go_round
        case rel => exact ⟨m + 1, by omega, by go_num, HN⟩
        case measure => simp [intOf]; omega
      · have HN : Hid (R = (m : Int)) := by rw [← hall.out]; exact idx_hit l n m z HZ.out hq
        go_wp2
        go_ret
        exact ⟨ret_int HN.out.symm, rfl⟩
    · have HN : Hid (R = -1) := by
        have h := hall.out
        rw [List.drop_eq_nil_of_le (by omega)] at h
        exact h.symm
      go_wp2
      go_ret
      exact ⟨ret_int HN.out.symm, rfl⟩

set_option maxHeartbeats 800000 in
set_option maxRecDepth 100000 in
theorem oneof_any (N R M : Nat) (en : Int) (texts : List ByteArray) (v : Value) (w : World) (l : List Tok) (h : Rd N R M en w l) (hv : SArg w v texts) :
    Calls Tryz.prog 98 #[.pointer (some ⟨R, 0, none⟩), v] w (PostR (oneOfP en texts l) (fun i v _ => v = .int .i64 i) N R M en (fun k => k = R) w) := by
  have hf0 := tokF0 (headT en l)
  have hf2 := tokF2 (headT en l)
  have HB : Hid (Rd N R M en w l) := h
  have HV : Hid (∀ w', Below w.heap.size w w' → SArg w' v texts) := fun w' hb => SArg.below hb hv
  obtain ⟨a, c, rfl, _, _⟩ := hv
  obtain ⟨I, hI⟩ : ∃ I, idxA texts (headT en l).text 0 = I := ⟨_, rfl⟩
  have HI : Hid (idxA texts (headT en l).text 0 = I) := hI
  obtain ⟨P, hP⟩ : ∃ P, oneOfP en texts l = P := ⟨_, rfl⟩
  have HP : Hid (P = (passP en (decide (0 ≤ I) && ((headT en l).kind != 0)) l).bind fun _ r => .ok I r) := by show _ = _; rw [← hP]; unfold oneOfP; rw [hI]
  rw [hP]
  have HL : Hid (((headT en l).kind != 0) = true → l ≠ []) := by
    intro hb hl
    subst hl
    have h2 : ((0 : Int) != 0) = true := hb
    simp at h2
  clear hI h hP
  go_enter Tryz.func98, Tryz.ntmps98
  go_wp2_with fail
  refine (ahead_any N R M en _ l HB.out).mono ?_
  rintro e w1 ⟨rfl, hb1⟩
  have HR1 : Hid (Rd N R M en w1 l) := HB.out.below hb1
  have HF1 : Hid (Fr (fun k => k = R) w w1) := Fr.below hb1
  have HV1 : Hid (SArg w1 (.slice a texts.length c) texts) := HV.out _ hb1
  unfold tokA
  clear hb1
  go_wp2_with fail
  refine (index_strs texts _ _ _ HV1.out).mono ?_
  rintro e w1 ⟨rfl, rfl⟩
  rw [HI.out]
  by_cases h0 : 0 ≤ I
  · have HD : Hid (decide (0 ≤ I) = true) := decide_eq_true h0
    obtain ⟨K, hK⟩ : ∃ K, ((headT en l).kind != 0) = K := ⟨_, rfl⟩
    have HK : Hid (((headT en l).kind != 0) = K) := hK
    have HP2 : Hid (P = (passP en K l).bind fun _ r => .ok I r) := by show _ = _; rw [HP.out, HD.out, hK]; rfl
    clear hK
    go_wp2_with fail
    refine (ahead_any N R M en _ l HR1.out).mono ?_
    rintro e w2 ⟨rfl, hb2⟩
    have HR2 : Hid (Rd N R M en w2 l) := HR1.out.below hb2
    have HF2 : Hid (Fr (fun k => k = R) w w2) := HF1.out.trans (Fr.below hb2)
    unfold tokA
    clear hb2
    go_wp2_with fail
    rw [HK.out]
    refine (pass_any N R M en K w2 l HR2.out (fun hb => HL.out (HK.out.trans hb))).mono ?_
    intro e w3 hp
    have HP3 : Hid (PostR (passP en K l) (fun t v _ => v = tokA t) N R M en (fun k => k = R) w e w3) := hp.fr HF2.out
    clear hp
    cases K
    · obtain ⟨rfl, hfr⟩ := HP3.out
      go_wp2
      exact ⟨rfl, by rw [HP2.out]; exact ⟨rfl, hfr⟩⟩
    · obtain ⟨v, rfl, rfl, hrd, hfr⟩ := HP3.out
      unfold tokA
      go_wp2
      go_ret
      rw [HP2.out]
      exact ⟨_, rfl, rfl, hrd, hfr⟩
  · have HP2 : Hid (P = (passP en false l).bind fun _ r => .ok I r) := by show _ = _; rw [HP.out, decide_eq_false h0]; rfl
    go_wp2_with fail
    refine (pass_any N R M en false w1 l HR1.out (fun hb => by cases hb)).mono ?_
    intro e w3 hp
    have HP3 : Hid (PostR (passP en false l) (fun t v _ => v = tokA t) N R M en (fun k => k = R) w e w3) := hp.fr HF1.out
    clear hp
    obtain ⟨rfl, hfr⟩ := HP3.out
    go_wp2
    exact ⟨rfl, by rw [HP2.out]; exact ⟨rfl, hfr⟩⟩
end Go.Proofs.YtggkbhafbhhhhabGreatDoor
