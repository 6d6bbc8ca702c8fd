/-
  WALK: the reference's JoinOf at a row of tokens: it answers what 'joinOf' says.
-/
import Derived.Test.YtjbeggebnededaaTokM
namespace Go.Proofs.Ytjbeggebnededaa
open Go.RowKit

theorem ret_str {a b : ByteArray} {v : Value} (h : a = b) : Ending.returned (.tuple #[.string a, v]) = .returned (.tuple #[.string b, v]) := by rw [h]
theorem app_data (a b : ByteArray) : (a ++ b).data.toList = a.data.toList ++ b.data.toList := by rw [ByteArray.data_append]; simp

def joinZ (ts : List Tok) (m : Nat) : Int := (joinN (ts.take m) : Int) - (if m = 0 then 1 else 0)

set_option maxHeartbeats 1600000 in
set_option maxRecDepth 100000 in
theorem rjoin_any (ts : List Tok) (b off c : Nat) (w : World) (hmax : ts.length ≤ 17592186044416) (htx : ∀ t ∈ ts, t.text.size ≤ maxLen) (hrow : tokRow w b off ts) :
    Calls Try.prog 14 #[.slice (some ⟨b, off, none⟩) ts.length c] w fun e w' => e = .returned (.tuple #[.string (joinOf ts).1, .int .i64 (joinOf ts).2]) ∧ ∃ n, w' = w.drewN n := by
  obtain ⟨R, hR⟩ : ∃ R, joinOf ts = R := ⟨_, rfl⟩
  rw [hR]
  have HR : Hid (joinOf ts = R) := hR
  have HROW : Hid (tokRow w b off ts) := hrow
  have HTX : Hid (∀ t ∈ ts, t.text.size ≤ maxLen) := htx
  clear hR hrow htx
  go_enter Try.func14, Try.ntmps14
  go_wp2_with fail
  go_loopw [4, 5, 6] (fun s n i wr => ∃ (m : Nat) (str : ByteArray), m ≤ ts.length ∧ i = .int .i64 m ∧ s = .string str ∧ n = .int .i64 (joinZ ts m) ∧ Hid ((ts.take m).all aloneB = true) ∧ Hid (joinN (ts.take m) ≤ 4000 → str.data.toList = joinL (ts.take m)) ∧ str.size ≤ 4000 ∧ ∃ q, wr = w.drewN q) (fun _ _ i _ => ts.length - (intOf i).toNat)
  case atStart => exact ⟨0, ⟨#[]⟩, by omega, rfl, rfl, rfl, rfl, fun _ => rfl, by decide, 0, rfl⟩
  case round =>
    obtain ⟨m, str, hm, rfl, rfl, rfl, hall, hstr, hsz, nq, rfl⟩ := hrel
    have hjn := joinN_le _ hall.out
    have hjl : (ts.take m).length = m := by simp; omega
    rw [hjl] at hjn
    have hz1 : -1 ≤ joinZ ts m := by unfold joinZ; split <;> omega
    have hz2 : joinZ ts m ≤ 13 * m := by unfold joinZ; split <;> omega
    by_cases hlt : m < ts.length
    · obtain ⟨t, ht⟩ : ∃ t, ts[m]? = some t := ⟨ts[m], by simp [hlt]⟩
      obtain ⟨hc0, hc1, hc2⟩ := HROW.out m t ht
      have HM : Hid (t ∈ ts) := List.mem_of_getElem? ht
      have HT : Hid (ts[m]? = some t) := ht
      have hti := istok_any t.kind t.text (HTX.out t HM.out)
      rw [← alone_iff] at hti
      have HTI : Hid (∀ (w : World), Calls Try.prog 34 #[.int .i64 t.kind, .string t.text] w fun e w' => e = .returned (.bool (aloneB t)) ∧ w' = w) := hti
      clear ht hjl hti
      cases hal : aloneB t
      · have HR2 : Hid (R = (ByteArray.empty, 1)) := by
          rw [← HR.out]; unfold joinOf
          have hno : ts.all aloneB = false := by
            cases h : ts.all aloneB
            · rfl
            · rw [List.all_eq_true.1 h t HM.out] at hal; cases hal
          rw [hno]; rfl
        go_wp2
        go_quiet ((go_at_call 34; exact (HTI.out _).mono (fun _ _ h => ⟨h.1, _, h.2⟩)))
        rw [hal]
        clear hal
        go_wp2
        go_ret2
        rw [HR2.out]
        exact ⟨rfl, _, drewN_drewN _ _ _⟩
      · have hts : t.text.size ≤ 12 := (tok_size t.kind t.text (by rw [← alone_iff]; exact hal)).2
        have HALL : Hid ((ts.take (m + 1)).all aloneB = true) := by
          show _ = true
          rw [take_snoc_tok ts m t HT.out, List.all_append, hall.out]; simp [hal]
        have hjs : joinN (ts.take (m + 1)) = joinN (ts.take m) + (if m = 0 then 0 else 1) + t.text.size := by
          rw [take_snoc_tok ts m t HT.out, joinN_snoc]
          have : (ts.take m).length = m := by simp; omega
          rw [this]
        have hjz : joinZ ts m + (1 + (t.text.size : Int)) = joinZ ts (m + 1) := by
          unfold joinZ; rw [hjs]; rw [if_neg (Nat.succ_ne_zero m)]; split <;> (push_cast; omega)
        have hjz2 : joinZ ts (m + 1) = joinN (ts.take (m + 1)) := by unfold joinZ; rw [if_neg (Nat.succ_ne_zero m)]; omega
        have hjL : joinL (ts.take (m + 1)) = joinL (ts.take m) ++ (if m = 0 then [] else [32]) ++ t.text.data.toList := by
          rw [take_snoc_tok ts m t HT.out, joinL_snoc]
          have : (ts.take m).length = m := by simp; omega
          rw [this]
        have HJZ : Hid (joinZ ts m + (1 + (t.text.size : Int)) = joinZ ts (m + 1)) := hjz
        by_cases hbig : joinN (ts.take (m + 1)) ≤ 4000
        · have hz3 : joinZ ts m + (1 + (t.text.size : Int)) ≤ 4000 := by rw [hjz, hjz2]; omega
          have hpre : joinN (ts.take m) ≤ 4000 := by rw [hjs] at hbig; omega
          have HS0 : Hid (str.data.toList = joinL (ts.take m)) := hstr.out hpre
          have HLEN : Hid ((joinL (ts.take (m + 1))).length ≤ 4000) := by show _ ≤ _; rw [joinL_len]; exact hbig
          have HJL : Hid (joinL (ts.take (m + 1)) = joinL (ts.take m) ++ (if m = 0 then [] else [32]) ++ t.text.data.toList) := hjL
          clear hjs hjz hjz2 hjL hbig hpre
          by_cases hm0 : m = 0
          · have HE : Hid (joinL (ts.take (m + 1)) = str.data.toList ++ t.text.data.toList) := by have := HJL.out; rw [if_pos hm0, List.append_nil, ← HS0.out] at this; exact this
            have hz : (m : Int) < 1 := by omega
            clear hm0
            go_wp2
            go_quiet ((go_at_call 34; exact (HTI.out _).mono (fun _ _ h => ⟨h.1, _, h.2⟩)))
            rw [hal]
            clear hal
            go_wp2
            have HST : Hid (joinN (ts.take (m + 1)) ≤ 4000 → (str ++ t.text).data.toList = joinL (ts.take (m + 1))) := fun _ => by rw [HE.out, app_data]
            have hsz2 : (str ++ t.text).size ≤ 4000 := by have := HLEN.out; rw [HE.out, ← app_data, len_size] at this; exact this
            go_roundw
            case rel => exact ⟨m + 1, _, by omega, by go_num, rfl, by rw [← HJZ.out], HALL, HST, hsz2, _, rfl⟩
            case measure => simp [intOf]; omega
          · have HE : Hid (joinL (ts.take (m + 1)) = str.data.toList ++ [32] ++ t.text.data.toList) := by have := HJL.out; rw [if_neg hm0, ← HS0.out] at this; exact this
            have hz : (0 : Int) < (m : Int) := by omega
            clear hm0
            go_wp2
            go_quiet ((go_at_call 34; exact (HTI.out _).mono (fun _ _ h => ⟨h.1, _, h.2⟩)))
            rw [hal]
            clear hal
            go_wp2
            have e3 : (str ++ ⟨#[32]⟩ ++ t.text : ByteArray).data.toList = str.data.toList ++ [32] ++ t.text.data.toList := by rw [app_data, app_data]
            have HST : Hid (joinN (ts.take (m + 1)) ≤ 4000 → (str ++ ⟨#[32]⟩ ++ t.text : ByteArray).data.toList = joinL (ts.take (m + 1))) := fun _ => by rw [HE.out, e3]
            have hsz2 : (str ++ ⟨#[32]⟩ ++ t.text : ByteArray).size ≤ 4000 := by have := HLEN.out; rw [HE.out, ← e3, len_size] at this; exact this
            go_roundw
            case rel => exact ⟨m + 1, _, by omega, by go_num, rfl, by rw [← HJZ.out], HALL, HST, hsz2, _, rfl⟩
            case measure => simp [intOf]; omega
        · have HST : Hid (joinN (ts.take (m + 1)) ≤ 4000 → str.data.toList = joinL (ts.take (m + 1))) := fun h => absurd h hbig
          have hz3 : 4000 < joinZ ts m + (1 + (t.text.size : Int)) := by rw [hjz, hjz2]; omega
          clear hjs hjz hjz2 hjL
          go_wp2
          go_quiet ((go_at_call 34; exact (HTI.out _).mono (fun _ _ h => ⟨h.1, _, h.2⟩)))
          rw [hal]
          clear hal
          go_wp2
          go_roundw
          case rel => exact ⟨m + 1, str, by omega, by go_num, rfl, by rw [← HJZ.out], HALL, HST, hsz, _, rfl⟩
          case measure => simp [intOf]; omega
    · have hmn : m = ts.length := by omega
      subst hmn
      rw [List.take_length] at hjn hall hstr
      have hzz : joinZ ts ts.length = (joinN ts : Int) - (if ts.length = 0 then 1 else 0) := by unfold joinZ; rw [List.take_length]
      by_cases hbig : 4000 < joinN ts
      · have HR2 : Hid (R = (ByteArray.empty, 2)) := show R = (ByteArray.empty, 2) by
          rw [← HR.out]; unfold joinOf; rw [hall.out, if_pos rfl, if_pos hbig]
        have hl0 : ts.length ≠ 0 := by intro h; have h' := List.eq_nil_of_length_eq_zero h; rw [h'] at hbig; simp [joinN] at hbig
        have hz3 : 4000 < joinZ ts ts.length := by rw [hzz, if_neg hl0]; omega
        clear hzz
        go_wp2
        go_ret2
        rw [HR2.out]
        exact ⟨rfl, _, rfl⟩
      · have HR2 : Hid (R = (⟨(joinL ts).toArray⟩, 0)) := show R = (⟨(joinL ts).toArray⟩, 0) by
          rw [← HR.out]; unfold joinOf; rw [hall.out, if_pos rfl, if_neg hbig]
        have hse : str = ⟨(joinL ts).toArray⟩ := by
          apply ByteArray.ext; rw [← hstr.out (by omega)]
        have hz3 : joinZ ts ts.length ≤ 4000 := by rw [hzz]; split <;> omega
        have HSE : Hid (str = ⟨(joinL ts).toArray⟩) := hse
        clear hzz hse
        go_wp2
        go_ret2
        rw [HR2.out]
        exact ⟨ret_str HSE.out, _, rfl⟩
end Go.Proofs.Ytjbeggebnededaa
