/-
  PART 5 of what the proof leans on (TokF, TokM, RfB, RfC, RfD, RfE, RfF, RfQ, RfR).
-/
import Derived.Test.YtdjbejlbmaiocabGreatDoorPartD
import Derived.Deep.CutBlock
import Derived.Deep.DeepCutAuto
/-
  WALK: the reference's ScanOf: it answers what 'scanOf' says.
-/
namespace Go.Proofs.YtdjbejlbmaiocabGreatDoor
open Go.RowKit

set_option maxHeartbeats 1600000 in
set_option maxRecDepth 100000 in
theorem rscan_any (s : ByteArray) (hs : s.size ≤ 4000) (w : World) :
    Calls Tryz.prog 16 #[.string s] w fun e w' => ∃ v, e = .returned (.tuple #[v, .int .i64 (scanOf s).2.1, .int .i64 (scanOf s).2.2]) ∧
      w'.ownsRow w.heap.size 79 3 v (scanOf s).1.length (toksCells (scanOf s).1) ∧ Below w.heap.size w w' := by
  have HS : Hid (s.size ≤ maxLen) := by show s.size ≤ maxLen; unfold maxLen; omega
  obtain ⟨i0, hi, hz0, hz1, hz2⟩ := info_parts Tryz.infoTok
  obtain ⟨R, hR⟩ : ∃ R, R = scanOf s := ⟨_, rfl⟩
  rw [← hR]
  have HR : Hid (R = scanF (s.size + 1) s 0 []) := by rw [hR]; unfold scanOf; rw [if_neg (by omega)]; rfl
  clear hR
  go_enter Tryz.func16, Tryz.ntmps16
  go_wp2_with fail
  go_loopw [5, 6, 7] (fun v b i wr => ∃ (k f j : Nat) (note : Bool) (acc : List Tok), b = .bool note ∧ i = .int .i64 j ∧ Hid (skipTo note s.data.toList j = skipTo false s.data.toList k) ∧ Hid (R = scanF f s k acc) ∧ s.size < k + f ∧ k ≤ s.size ∧ j ≤ s.size ∧ k ≤ j ∧ acc.length ≤ k ∧
      wr.ownsRow w.heap.size 79 3 v acc.length (toksCells acc) ∧ Below w.heap.size w wr) (fun _ _ i _ => s.size - (intOf i).toNat)
  case atStart => exact ⟨0, s.size + 1, 0, false, [], rfl, rfl, rfl, HR, by omega, by omega, by omega, by omega, Nat.le_refl _, World.ownsRow_nil _ _ _ _, Below.refl _ _⟩
  case round =>
    obtain ⟨k, f, j, note, acc, rfl, rfl, hj, hR, hf, hk, hjs, hkj, hacc, hown, hbw⟩ := hrel
    by_cases hlt : j < s.size
    · have hl : j < s.data.toList.length := by simpa using hlt
      have hget := list_get s j hlt hl
      have HG : Hid (s.data.toList[j] = s[j]) := hget
      clear hget
      cases note
      · cases h4 : ((s[j].toNat : Int) == 37)
        · cases hb : isB s[j]
          · have h1 : ((s[j].toNat : Int) == 32) = false := by unfold isB at hb; simp only [Bool.or_eq_false_iff] at hb; exact hb.1
            have h2 : ((s[j].toNat : Int) == 9) = false := by unfold isB at hb; simp only [Bool.or_eq_false_iff] at hb; exact hb.2.1
            have h3 : ((s[j].toNat : Int) == 10) = false := by unfold isB at hb; simp only [Bool.or_eq_false_iff] at hb; exact hb.2.2
            have HJ : Hid (skipTo false s.data.toList k = j) := by rw [← hj.out]; exact skipTo_stop _ j hl (by rw [HG.out]; exact hb) (by rw [HG.out]; exact h4)
            clear hb hj
            obtain ⟨f, rfl⟩ : ∃ f', f = f' + 1 := ⟨f - 1, by omega⟩
            have hle := endOf_le _ j hl
            have hle1 : endOf s.data.toList j ≤ s.size := by simpa using hle.2
            obtain ⟨n, hn⟩ : ∃ n, endOf s.data.toList j = j + n := ⟨endOf s.data.toList j - j, by omega⟩
            have HN : Hid (((endOf s.data.toList j - j : Nat) : Int) = (n : Int)) := by show ((endOf s.data.toList j - j : Nat) : Int) = (n : Int); rw [hn, Nat.add_sub_cancel_left]
            have HN' : Hid (endOf s.data.toList j = j + n) := hn
            have hnj : j + n ≤ s.size := by omega
            have hpos : kindOf s.data.toList j ≠ 0 → 0 < n := fun h => by have := endOf_gt _ j hl h; omega
            clear hle hn hle1
            rcases kind_cases s.data.toList j with hkd | hkd | hkd | hkd
            · have HR2 : Hid (R = ([], j, 1)) := by
                rw [hR.out]
                have ht : tokAt s j = ⟨0, 0, ByteArray.empty⟩ := by unfold tokAt; rw [if_pos hkd]
                have he : errOf (tokAt s j).kind (tokAt s j).text = 1 := by rw [ht]; rfl
                rw [← he]; exact scanF_err f s k j acc HJ.out hlt (by rw [he]; decide)
              have HK : Hid (((kindOf s.data.toList j : Nat) : Int) = 0) := by rw [hkd]; rfl
              clear hkd hpos
              go_wp2_with fail
              refine (at_any s j hlt HS.out _).mono ?_
              rintro e wr ⟨rfl, rfl⟩
              rw [HK.out, HN.out]
              go_wp2
              go_ret3
              rw [HR2.out]
              exact ⟨_, rfl, World.ownsRow_nil _ _ _ _, hbw⟩
            · have hn0 : 0 < n := hpos (by omega)
              clear hpos
              by_cases h12 : 12 < n
              · have HR2 : Hid (R = ([], j, 2)) := by
                  rw [hR.out]
                  have ht := tokAt_some s j n 1 hkd (by omega) HN'.out
                  have he : errOf (tokAt s j).kind (tokAt s j).text = 2 := by rw [ht]; exact err1_long _ (by rw [size_extract _ _ _ hnj]; omega)
                  rw [← he]; exact scanF_err f s k j acc HJ.out hlt (by rw [he]; decide)
                have HK : Hid (((kindOf s.data.toList j : Nat) : Int) = 1) := by rw [hkd]; rfl
                clear hkd
                go_wp2_with fail
                refine (at_any s j hlt HS.out _).mono ?_
                rintro e wr ⟨rfl, rfl⟩
                rw [HK.out, HN.out]
                go_wp2
                go_ret3
                rw [HR2.out]
                exact ⟨_, rfl, World.ownsRow_nil _ _ _ _, hbw⟩
              · have ht := tokAt_some s j n 1 hkd (by omega) HN'.out
                have he : errOf (tokAt s j).kind (tokAt s j).text = 0 := by rw [ht]; exact err1_ok _ (by rw [size_extract _ _ _ hnj]; omega)
                have HR2 : Hid (R = scanF f s (j + n) (acc ++ [⟨1, j, s.extract j (j + n)⟩])) := by
                  rw [hR.out, scanF_next f s k j acc HJ.out hlt he, HN'.out, ht]; rfl
                have HK : Hid (((kindOf s.data.toList j : Nat) : Int) = 1) := by rw [hkd]; rfl
                clear hkd ht he
                go_wp2_with fail
                refine (at_any s j hlt HS.out _).mono ?_
                rintro e wr ⟨rfl, rfl⟩
                rw [HK.out, HN.out]
                go_wp2_with (at_builtin; refine wpList_append_own _ rfl _ _ 38 rfl w.heap.size 79 i0 (.agg #[.int .i64 0, .int .i64 0, .string ByteArray.empty]) 3 32 Tryz.underlying38 hi hz0 hz1 hz2 rfl (by decide) _ _ _ rfl (hown.alloc _) ⟨wr.heap.size, 0, none⟩ 1 1 (tokCells ⟨1, j, s.extract j (j + n)⟩) rfl rfl ?c1 ?c2 ?c3 ?c4 ?c5 ?_)
                case c1 => first | exact laid_cells wr ⟨1, j, s.extract j (j + n)⟩ | exact fun _ _ h => h
                case c2 => exact tok_oneCell _
                case c3 => unfold maxLen; omega
                case c4 => omega
                case c5 => have := hbw.size; simp; omega
                intro v3 w3 hown3 hgrow _
                have hb3 : Below w.heap.size w w3 := (hbw.alloc (by have := hbw.size; omega) _).grown hgrow (by have := hbw.size; simp; omega) (fun b h => (hown.lt _ h).1)
                have hown4 : w3.ownsRow w.heap.size 79 3 v3 (acc ++ ([⟨1, j, s.extract j (j + n)⟩] : List Tok)).length (toksCells (acc ++ [⟨1, j, s.extract j (j + n)⟩])) := by
                  rw [toksCells_snoc, List.length_append]; exact hown3
                clear hown3 hgrow hown hbw
                go_wp2
                go_roundw
                case rel => exact ⟨j + n, f, j + n, false, _, rfl, by go_num, rfl, HR2, by omega, hnj, hnj, Nat.le_refl _, by simp; omega, hown4, hb3⟩
                case measure => simp [intOf]; omega
            · have hn0 : 0 < n := hpos (by omega)
              clear hpos
              by_cases h4n : 4 < n
              · have HR2 : Hid (R = ([], j, 2)) := by
                  rw [hR.out]
                  have ht := tokAt_some s j n 2 hkd (by omega) HN'.out
                  have he : errOf (tokAt s j).kind (tokAt s j).text = 2 := by rw [ht]; exact err2_long _ (by rw [size_extract _ _ _ hnj]; omega)
                  rw [← he]; exact scanF_err f s k j acc HJ.out hlt (by rw [he]; decide)
                have HK : Hid (((kindOf s.data.toList j : Nat) : Int) = 2) := by rw [hkd]; rfl
                clear hkd
                go_wp2_with fail
                refine (at_any s j hlt HS.out _).mono ?_
                rintro e wr ⟨rfl, rfl⟩
                rw [HK.out, HN.out]
                go_wp2
                go_ret3
                rw [HR2.out]
                exact ⟨_, rfl, World.ownsRow_nil _ _ _ _, hbw⟩
              · by_cases h1n : 1 < n
                · have hx0 : 0 < (s.extract j (j + n)).size := by rw [size_extract _ _ _ hnj]; omega
                  have hbx : byteAt (s.extract j (j + n)).data.toList 0 = (s.extract j (j + n))[0] := by rw [byteAt_get _ _ (show 0 < (s.extract j (j + n)).data.toList.length by rw [Array.length_toList]; exact hx0)]; exact list_get _ 0 hx0 _
                  cases h0x : (((s.extract j (j + n))[0].toNat : Int) == 48)
                  · have ht := tokAt_some s j n 2 hkd (by omega) HN'.out
                    have he : errOf (tokAt s j).kind (tokAt s j).text = 0 := by rw [ht]; exact err2_ok _ (by rw [size_extract _ _ _ hnj]; omega) (fun h => by rw [hbx]; simpa using h0x)
                    have HR2 : Hid (R = scanF f s (j + n) (acc ++ [⟨2, j, s.extract j (j + n)⟩])) := by
                      rw [hR.out, scanF_next f s k j acc HJ.out hlt he, HN'.out, ht]; rfl
                    have HK : Hid (((kindOf s.data.toList j : Nat) : Int) = 2) := by rw [hkd]; rfl
                    clear hkd ht he hbx
                    go_wp2_with fail
                    refine (at_any s j hlt HS.out _).mono ?_
                    rintro e wr ⟨rfl, rfl⟩
                    rw [HK.out, HN.out]
                    go_wp2_with (at_builtin; refine wpList_append_own _ rfl _ _ 38 rfl w.heap.size 79 i0 (.agg #[.int .i64 0, .int .i64 0, .string ByteArray.empty]) 3 32 Tryz.underlying38 hi hz0 hz1 hz2 rfl (by decide) _ _ _ rfl (hown.alloc _) ⟨wr.heap.size, 0, none⟩ 1 1 (tokCells ⟨2, j, s.extract j (j + n)⟩) rfl rfl ?c1 ?c2 ?c3 ?c4 ?c5 ?_)
                    case c1 => first | exact laid_cells wr ⟨2, j, s.extract j (j + n)⟩ | exact fun _ _ h => h
                    case c2 => exact tok_oneCell _
                    case c3 => unfold maxLen; omega
                    case c4 => omega
                    case c5 => have := hbw.size; simp; omega
                    intro v3 w3 hown3 hgrow _
                    have hb3 : Below w.heap.size w w3 := (hbw.alloc (by have := hbw.size; omega) _).grown hgrow (by have := hbw.size; simp; omega) (fun b h => (hown.lt _ h).1)
                    have hown4 : w3.ownsRow w.heap.size 79 3 v3 (acc ++ ([⟨2, j, s.extract j (j + n)⟩] : List Tok)).length (toksCells (acc ++ [⟨2, j, s.extract j (j + n)⟩])) := by
                      rw [toksCells_snoc, List.length_append]; exact hown3
                    clear hown3 hgrow hown hbw
                    go_wp2
                    go_roundw
                    case rel => exact ⟨j + n, f, j + n, false, _, rfl, by go_num, rfl, HR2, by omega, hnj, hnj, Nat.le_refl _, by simp; omega, hown4, hb3⟩
                    case measure => simp [intOf]; omega
                  · have HR2 : Hid (R = ([], j, 1)) := by
                      rw [hR.out]
                      have ht := tokAt_some s j n 2 hkd (by omega) HN'.out
                      have he : errOf (tokAt s j).kind (tokAt s j).text = 1 := by rw [ht]; exact err2_nought _ (by rw [size_extract _ _ _ hnj]; omega) (by rw [size_extract _ _ _ hnj]; omega) (by rw [hbx]; simpa using h0x)
                      rw [← he]; exact scanF_err f s k j acc HJ.out hlt (by rw [he]; decide)
                    have HK : Hid (((kindOf s.data.toList j : Nat) : Int) = 2) := by rw [hkd]; rfl
                    clear hkd hbx
                    go_wp2_with fail
                    refine (at_any s j hlt HS.out _).mono ?_
                    rintro e wr ⟨rfl, rfl⟩
                    rw [HK.out, HN.out]
                    go_wp2
                    go_ret3
                    rw [HR2.out]
                    exact ⟨_, rfl, World.ownsRow_nil _ _ _ _, hbw⟩
                · have ht := tokAt_some s j n 2 hkd (by omega) HN'.out
                  have he : errOf (tokAt s j).kind (tokAt s j).text = 0 := by rw [ht]; exact err2_ok _ (by rw [size_extract _ _ _ hnj]; omega) (fun h => by rw [size_extract _ _ _ hnj] at h; omega)
                  have HR2 : Hid (R = scanF f s (j + n) (acc ++ [⟨2, j, s.extract j (j + n)⟩])) := by
                    rw [hR.out, scanF_next f s k j acc HJ.out hlt he, HN'.out, ht]; rfl
                  have HK : Hid (((kindOf s.data.toList j : Nat) : Int) = 2) := by rw [hkd]; rfl
                  clear hkd ht he
                  go_wp2_with fail
                  refine (at_any s j hlt HS.out _).mono ?_
                  rintro e wr ⟨rfl, rfl⟩
                  rw [HK.out, HN.out]
                  go_wp2_with (at_builtin; refine wpList_append_own _ rfl _ _ 38 rfl w.heap.size 79 i0 (.agg #[.int .i64 0, .int .i64 0, .string ByteArray.empty]) 3 32 Tryz.underlying38 hi hz0 hz1 hz2 rfl (by decide) _ _ _ rfl (hown.alloc _) ⟨wr.heap.size, 0, none⟩ 1 1 (tokCells ⟨2, j, s.extract j (j + n)⟩) rfl rfl ?c1 ?c2 ?c3 ?c4 ?c5 ?_)
                  case c1 => first | exact laid_cells wr ⟨2, j, s.extract j (j + n)⟩ | exact fun _ _ h => h
                  case c2 => exact tok_oneCell _
                  case c3 => unfold maxLen; omega
                  case c4 => omega
                  case c5 => have := hbw.size; simp; omega
                  intro v3 w3 hown3 hgrow _
                  have hb3 : Below w.heap.size w w3 := (hbw.alloc (by have := hbw.size; omega) _).grown hgrow (by have := hbw.size; simp; omega) (fun b h => (hown.lt _ h).1)
                  have hown4 : w3.ownsRow w.heap.size 79 3 v3 (acc ++ ([⟨2, j, s.extract j (j + n)⟩] : List Tok)).length (toksCells (acc ++ [⟨2, j, s.extract j (j + n)⟩])) := by
                    rw [toksCells_snoc, List.length_append]; exact hown3
                  clear hown3 hgrow hown hbw
                  go_wp2
                  go_roundw
                  case rel => exact ⟨j + n, f, j + n, false, _, rfl, by go_num, rfl, HR2, by omega, hnj, hnj, Nat.le_refl _, by simp; omega, hown4, hb3⟩
                  case measure => simp [intOf]; omega
            · have hn0 : 0 < n := hpos (by omega)
              clear hpos
              have ht := tokAt_some s j n 3 hkd (by omega) HN'.out
              have he : errOf (tokAt s j).kind (tokAt s j).text = 0 := by rw [ht]; exact err3_ok _
              have HR2 : Hid (R = scanF f s (j + n) (acc ++ [⟨3, j, s.extract j (j + n)⟩])) := by
                rw [hR.out, scanF_next f s k j acc HJ.out hlt he, HN'.out, ht]; rfl
              have HK : Hid (((kindOf s.data.toList j : Nat) : Int) = 3) := by rw [hkd]; rfl
              clear hkd ht he
              go_wp2_with fail
              refine (at_any s j hlt HS.out _).mono ?_
              rintro e wr ⟨rfl, rfl⟩
              rw [HK.out, HN.out]
              go_wp2_with (at_builtin; refine wpList_append_own _ rfl _ _ 38 rfl w.heap.size 79 i0 (.agg #[.int .i64 0, .int .i64 0, .string ByteArray.empty]) 3 32 Tryz.underlying38 hi hz0 hz1 hz2 rfl (by decide) _ _ _ rfl (hown.alloc _) ⟨wr.heap.size, 0, none⟩ 1 1 (tokCells ⟨3, j, s.extract j (j + n)⟩) rfl rfl ?c1 ?c2 ?c3 ?c4 ?c5 ?_)
              case c1 => first | exact laid_cells wr ⟨3, j, s.extract j (j + n)⟩ | exact fun _ _ h => h
              case c2 => exact tok_oneCell _
              case c3 => unfold maxLen; omega
              case c4 => omega
              case c5 => have := hbw.size; simp; omega
              intro v3 w3 hown3 hgrow _
              have hb3 : Below w.heap.size w w3 := (hbw.alloc (by have := hbw.size; omega) _).grown hgrow (by have := hbw.size; simp; omega) (fun b h => (hown.lt _ h).1)
              have hown4 : w3.ownsRow w.heap.size 79 3 v3 (acc ++ ([⟨3, j, s.extract j (j + n)⟩] : List Tok)).length (toksCells (acc ++ [⟨3, j, s.extract j (j + n)⟩])) := by
                rw [toksCells_snoc, List.length_append]; exact hown3
              clear hown3 hgrow hown hbw
              go_wp2
              go_roundw
              case rel => exact ⟨j + n, f, j + n, false, _, rfl, by go_num, rfl, HR2, by omega, hnj, hnj, Nat.le_refl _, by simp; omega, hown4, hb3⟩
              case measure => simp [intOf]; omega
          · have HE : Hid (skipTo false s.data.toList (j + 1) = skipTo false s.data.toList k) := by rw [← hj.out]; exact (skipTo_blank _ j hl (by rw [HG.out]; exact hb)).symm
            simp only [isB, Bool.or_eq_true] at hb
            rcases hb with hb | hb | hb
            all_goals
              go_wp2
            all_goals
              go_roundw
              case rel => exact ⟨k, f, j + 1, false, acc, rfl, by go_num, HE, hR, hf, hk, by omega, by omega, hacc, hown, hbw⟩
              case measure => simp [intOf]; omega
        · have HE : Hid (skipTo (notNl s[j]) s.data.toList (j + 1) = skipTo false s.data.toList k) := by rw [← hj.out, ← HG.out]; exact (skipTo_note _ _ j hl (by rw [HG.out, h4]; rfl)).symm
          go_wp2
          go_roundw
          case rel => exact ⟨k, f, j + 1, notNl s[j], acc, rfl, by go_num, HE, hR, hf, hk, by omega, by omega, hacc, hown, hbw⟩
          case measure => simp [intOf]; omega
      · have HE : Hid (skipTo (notNl s[j]) s.data.toList (j + 1) = skipTo false s.data.toList k) := by rw [← hj.out, ← HG.out]; exact (skipTo_note _ _ j hl rfl).symm
        go_wp2
        go_roundw
        case rel => exact ⟨k, f, j + 1, notNl s[j], acc, rfl, by go_num, HE, hR, hf, hk, by omega, by omega, hacc, hown, hbw⟩
        case measure => simp [intOf]; omega
    · have HR2 : Hid (R = (acc, 0, 0)) := by rw [hR.out]; exact scanF_end f s k acc (by rw [← hj.out, skipTo_end _ _ _ (by simpa using hlt)]; exact hlt)
      go_wp2
      go_ret3
      rw [HR2.out]
      exact ⟨_, rfl, hown, hbw⟩
end Go.Proofs.YtdjbejlbmaiocabGreatDoor
/-
  WALK: the reference's IsToken.
-/
namespace Go.Proofs.YtdjbejlbmaiocabGreatDoor
open Go.RowKit

set_option maxHeartbeats 1600000 in
set_option maxRecDepth 100000 in
theorem istok_any (kind : Int) (s : ByteArray) (hs : s.size ≤ maxLen) (w : World) :
    Calls Tryz.prog 46 #[.int .i64 kind, .string s] w fun e w' => e = .returned (.bool (isTok kind s)) ∧ w' = w := by
  have HS : Hid (s.size ≤ maxLen) := hs
  unfold maxLen at hs
  by_cases h0 : 0 < s.size
  · have hem : s.toList.isEmpty = false := by
      rw [ByteArray.toList_eq]; cases h : s.data.toList with
      | nil => have := len_size s; rw [h] at this; simp at this; omega
      | cons a r => rfl
    have hne : ¬ s.toList = [] := by intro h; rw [h] at hem; cases hem
    by_cases h4 : s.size ≤ 4000
    · by_cases hk : kind = 0
      · have hA : isTok kind s = false := by unfold isTok; simp [hk]
        rw [hA]; subst hk
        go_enter Tryz.func46, Tryz.ntmps46
        go_wp2
        all_goals (go_ret; exact ⟨ret_bool (by first | rfl | (simp; done) | (simp; omega)), rfl⟩)
      · have hk0 : (kind == 0) = false := by simpa using hk
        have hl : 0 < s.data.toList.length := by rw [len_size]; exact h0
        have hend := (endOf_le _ 0 hl).2
        rw [len_size] at hend
        have hbx : byteAt s.data.toList 0 = s[0] := by rw [byteAt_get _ _ hl]; exact list_get s 0 h0 hl
        obtain ⟨K, hK⟩ : ∃ K, kindOf s.data.toList 0 = K := ⟨_, rfl⟩
        obtain ⟨N, hN⟩ : ∃ N, endOf s.data.toList 0 = N := ⟨_, rfl⟩
        have hkc := kind_cases s.data.toList 0
        rw [hK] at hkc
        rw [hN] at hend
        have hT : isTok kind s = (decide ((K : Int) = kind) && (decide (N = s.size) && decide (errOf kind s = 0))) := by
          unfold isTok; rw [hK, hN]; simp [h0, h4, hk]
        rw [hT]; clear hT
        have HKK : Hid (((kindOf s.data.toList 0 : Nat) : Int) = (K : Int)) := congrArg Nat.cast hK
        have HNN : Hid (((endOf s.data.toList 0 - 0 : Nat) : Int) = (N : Int)) := congrArg Nat.cast hN
        clear hK hN
        by_cases hkk : (K : Int) = kind
        · subst hkk
          by_cases hnn : N = s.size
          · subst hnn
            rcases hkc with rfl | rfl | rfl | rfl
            · exact absurd rfl hk
            · by_cases h12 : 12 < s.size
              · rw [show errOf ((1 : Nat) : Int) s = 2 from err1_long s h12]
                clear hbx hk hk0
                go_enter Tryz.func46, Tryz.ntmps46
                go_wp2_with fail
                refine (at_any s 0 h0 HS.out _).mono ?_
                rintro e w ⟨rfl, rfl⟩
                rw [HKK.out, HNN.out]
                go_wp2
                all_goals (go_ret; exact ⟨ret_bool (by first | rfl | (simp; done) | (simp; omega)), rfl⟩)
              · rw [show errOf ((1 : Nat) : Int) s = 0 from err1_ok s h12]
                clear hbx hk hk0
                go_enter Tryz.func46, Tryz.ntmps46
                go_wp2_with fail
                refine (at_any s 0 h0 HS.out _).mono ?_
                rintro e w ⟨rfl, rfl⟩
                rw [HKK.out, HNN.out]
                go_wp2
                all_goals (go_ret; exact ⟨ret_bool (by first | rfl | (simp; done) | (simp; omega)), rfl⟩)
            · by_cases h5 : 4 < s.size
              · rw [show errOf ((2 : Nat) : Int) s = 2 from err2_long s h5]
                clear hbx hk hk0
                go_enter Tryz.func46, Tryz.ntmps46
                go_wp2_with fail
                refine (at_any s 0 h0 HS.out _).mono ?_
                rintro e w ⟨rfl, rfl⟩
                rw [HKK.out, HNN.out]
                go_wp2
                all_goals (go_ret; exact ⟨ret_bool (by first | rfl | (simp; done) | (simp; omega)), rfl⟩)
              · by_cases h1 : 1 < s.size
                · cases hc : ((s[0].toNat : Int) == 48)
                  · rw [show errOf ((2 : Nat) : Int) s = 0 from err2_ok s h5 (fun _ => by rw [hbx]; simpa using hc)]
                    clear hbx hk hk0
                    go_enter Tryz.func46, Tryz.ntmps46
                    go_wp2_with fail
                    refine (at_any s 0 h0 HS.out _).mono ?_
                    rintro e w ⟨rfl, rfl⟩
                    rw [HKK.out, HNN.out]
                    go_wp2
                    all_goals (go_ret; exact ⟨ret_bool (by first | rfl | (simp; done) | (simp; omega)), rfl⟩)
                  · rw [show errOf ((2 : Nat) : Int) s = 1 from err2_nought s h5 h1 (by rw [hbx]; simpa using hc)]
                    clear hbx hk hk0
                    go_enter Tryz.func46, Tryz.ntmps46
                    go_wp2_with fail
                    refine (at_any s 0 h0 HS.out _).mono ?_
                    rintro e w ⟨rfl, rfl⟩
                    rw [HKK.out, HNN.out]
                    go_wp2
                    all_goals (go_ret; exact ⟨ret_bool (by first | rfl | (simp; done) | (simp; omega)), rfl⟩)
                · rw [show errOf ((2 : Nat) : Int) s = 0 from err2_ok s h5 (fun h => absurd h h1)]
                  clear hbx hk hk0
                  go_enter Tryz.func46, Tryz.ntmps46
                  go_wp2_with fail
                  refine (at_any s 0 h0 HS.out _).mono ?_
                  rintro e w ⟨rfl, rfl⟩
                  rw [HKK.out, HNN.out]
                  go_wp2
                  all_goals (go_ret; exact ⟨ret_bool (by first | rfl | (simp; done) | (simp; omega)), rfl⟩)
            · rw [show errOf ((3 : Nat) : Int) s = 0 from err3_ok s]
              clear hbx hk hk0
              go_enter Tryz.func46, Tryz.ntmps46
              go_wp2_with fail
              refine (at_any s 0 h0 HS.out _).mono ?_
              rintro e w ⟨rfl, rfl⟩
              rw [HKK.out, HNN.out]
              go_wp2
              all_goals (go_ret; exact ⟨ret_bool (by first | rfl | (simp; done) | (simp; omega)), rfl⟩)
          · have hnf : ((N : Int) == (s.size : Int)) = false := by simpa using (show ¬ (N : Int) = (s.size : Int) by omega)
            rw [decide_eq_false hnn]
            clear hbx
            go_enter Tryz.func46, Tryz.ntmps46
            go_wp2_with fail
            refine (at_any s 0 h0 HS.out _).mono ?_
            rintro e w ⟨rfl, rfl⟩
            rw [HKK.out, HNN.out]
            go_wp2
            all_goals (go_ret; exact ⟨ret_bool (by first | rfl | (simp; done) | (simp; omega)), rfl⟩)
        · have hkf : ((K : Int) == kind) = false := by simpa using hkk
          rw [decide_eq_false hkk]
          clear hbx
          go_enter Tryz.func46, Tryz.ntmps46
          go_wp2_with fail
          refine (at_any s 0 h0 HS.out _).mono ?_
          rintro e w ⟨rfl, rfl⟩
          rw [HKK.out, HNN.out]
          go_wp2
          all_goals (go_ret; exact ⟨ret_bool (by first | rfl | (simp; done) | (simp; omega)), rfl⟩)
    · have hA : isTok kind s = false := by unfold isTok; simp [h4]
      rw [hA]
      go_enter Tryz.func46, Tryz.ntmps46
      go_wp2
      all_goals (go_ret; exact ⟨ret_bool (by first | rfl | (simp; done) | (simp; omega)), rfl⟩)
  · have hA : isTok kind s = false := by unfold isTok; simp [h0]
    have hem : s.toList = [] := by
      rw [ByteArray.toList_eq]; apply List.eq_nil_of_length_eq_zero; rw [len_size]; omega
    rw [hA]
    go_enter Tryz.func46, Tryz.ntmps46
    go_wp2
    all_goals (go_ret; exact ⟨ret_bool (by first | rfl | (simp; done) | (simp; omega)), rfl⟩)
end Go.Proofs.YtdjbejlbmaiocabGreatDoor
/-
  WALKS: the reference's IsWord, IsName; its reader's Word.
-/
namespace Go.Proofs.YtdjbejlbmaiocabGreatDoor
open Go.RowKit

def words16 : List ByteArray := [⟨#[118, 97, 114]⟩, ⟨#[99, 111, 110]⟩, ⟨#[115, 111, 108, 118, 101]⟩, ⟨#[108, 101]⟩, ⟨#[101, 113]⟩, ⟨#[110, 101]⟩, ⟨#[100, 105, 102, 102, 101, 114]⟩, ⟨#[101, 108, 101, 109, 101, 110, 116]⟩, ⟨#[116, 97, 98, 108, 101]⟩, ⟨#[116, 105, 109, 101, 115]⟩, ⟨#[109, 97, 120]⟩, ⟨#[99, 108, 97, 117, 115, 101]⟩, ⟨#[105, 102, 102]⟩, ⟨#[97, 110, 121]⟩, ⟨#[108, 101, 97, 115, 116]⟩, ⟨#[109, 111, 115, 116]⟩]
theorem strs9 (w : World) (l : List ByteArray) (B : Nat) (hB : B = w.heap.size) (hl : l.length ≤ 100) : SArg (w.alloc (.cells (l.map Value.string).toArray 9)) (.slice (some ⟨B, 0, none⟩) l.length l.length) l := by
  subst hB
  refine ⟨_, l.length, rfl, ⟨Nat.le_refl _, by unfold maxLen; omega⟩, fun i z hz => ⟨_, 0, rfl, by simp, ?_⟩⟩
  rw [World.cell?_alloc_at _ _ _ (0 + i) (by simp)]
  simp [hz]
theorem any_next9 (f : ByteArray → Bool) (l : List ByteArray) (m : Nat) (s : ByteArray) (hs : l[m]? = some s) (h : (l.take m).any f = false) (hf : f s = false) : (l.take (m + 1)).any f = false := by
  rw [List.take_add_one, hs, List.any_append, h]
  show (false || (f s || false)) = false
  rw [hf]; rfl
theorem any_hit9 (f : ByteArray → Bool) (l : List ByteArray) (m : Nat) (s : ByteArray) (hs : l[m]? = some s) (hf : f s = true) : l.any f = true :=
  List.any_eq_true.2 ⟨s, List.mem_of_getElem? hs, hf⟩
theorem words_any (s : ByteArray) : words16.any (fun z => z.toList == s.toList) = isWordB s := by
  have h : ∀ z : ByteArray, (z.toList == s.toList) = (s.toList == z.toList) := fun z => Bool.eq_iff_iff.2 ⟨fun h => beq_iff_eq.2 (beq_iff_eq.1 h).symm, fun h => beq_iff_eq.2 (beq_iff_eq.1 h).symm⟩
  simp only [h]
  unfold words16 isWordB
  simp only [List.any_cons, List.any_nil, Bool.or_false, ByteArray.toList_eq]
set_option maxHeartbeats 1600000 in
set_option maxRecDepth 100000 in
theorem isword_any (s : ByteArray) (w : World) :
    Calls Tryz.prog 47 #[.string s] w fun e w' => e = .returned (.bool (isWordB s)) ∧ Below w.heap.size w w' := by
  obtain ⟨R, hR⟩ : ∃ R, isWordB s = R := ⟨_, rfl⟩
  have HR : Hid (words16.any (fun z => z.toList == s.toList) = R) := (words_any s).trans hR
  rw [hR]
  clear hR
  have HB : Hid (Below w.heap.size w (w.alloc (.cells (words16.map Value.string).toArray 9))) := below_alloc _ _
  have HV : Hid (SArg (w.alloc (.cells (words16.map Value.string).toArray 9)) (.slice (some ⟨w.heap.size, 0, none⟩) 16 16) words16) := strs9 w words16 _ rfl (by decide)
  have HL : Hid (words16.length = 16) := rfl
  obtain ⟨W, hW⟩ : ∃ W, w.alloc (.cells (words16.map Value.string).toArray 9) = W := ⟨_, rfl⟩
  have HW : Hid (w.alloc (.cells (words16.map Value.string).toArray 9) = W) := hW
  rw [hW] at HB HV
  clear hW
  go_enter Tryz.func47, Tryz.ntmps47
  go_wp2_with fail
  rw [show w.alloc (.cells #[.string ⟨#[118, 97, 114]⟩, .string ⟨#[99, 111, 110]⟩, .string ⟨#[115, 111, 108, 118, 101]⟩, .string ⟨#[108, 101]⟩, .string ⟨#[101, 113]⟩, .string ⟨#[110, 101]⟩, .string ⟨#[100, 105, 102, 102, 101, 114]⟩, .string ⟨#[101, 108, 101, 109, 101, 110, 116]⟩, .string ⟨#[116, 97, 98, 108, 101]⟩, .string ⟨#[116, 105, 109, 101, 115]⟩, .string ⟨#[109, 97, 120]⟩, .string ⟨#[99, 108, 97, 117, 115, 101]⟩, .string ⟨#[105, 102, 102]⟩, .string ⟨#[97, 110, 121]⟩, .string ⟨#[108, 101, 97, 115, 116]⟩, .string ⟨#[109, 111, 115, 116]⟩] 9) = W from HW.out]
  go_loopw [4] (fun i wr => ∃ m : Nat, m ≤ 16 ∧ i = .int .i64 m ∧ Hid ((words16.take m).any (fun z => z.toList == s.toList) = false) ∧ wr = W) (fun i _ => 16 - (intOf i).toNat)
  case atStart => exact ⟨0, by omega, rfl, rfl, rfl⟩
  case round =>
    obtain ⟨m, hm, rfl, hno, rfl⟩ := hrel
    by_cases hlt : m < 16
    · obtain ⟨z, hz⟩ : ∃ z, words16[m]? = some z := ⟨_, List.getElem?_eq_getElem (by rw [HL.out]; exact hlt)⟩
      obtain ⟨a, c, hva, _, hr⟩ := HV.out
      obtain ⟨b, off, ha, hb, hc⟩ := hr m z hz
      cases hva
      cases ha
      rw [Nat.zero_add] at hc
      clear hr
      cases hq : (z.toList == s.toList)
      · have HN : Hid ((words16.take (m + 1)).any (fun z => z.toList == s.toList) = false) := any_next9 _ _ m z hz hno.out hq
        clear hz
        go_wp2
        go_roundw
        case rel => exact ⟨m + 1, by omega, by go_num, HN, by first | rfl | trivial⟩
        case measure => simp [intOf]; omega
      · have HN : Hid (R = true) := HR.out.symm.trans (any_hit9 _ _ m z hz hq)
        clear hz
        go_wp2
        go_ret
        exact ⟨ret_bool HN.out.symm, HB.out⟩
    · obtain rfl : m = 16 := by omega
      have HN : Hid (R = false) := HR.out.symm.trans hno.out
      go_wp2
      go_ret
      exact ⟨ret_bool HN.out.symm, HB.out⟩
set_option maxHeartbeats 800000 in
set_option maxRecDepth 100000 in
theorem isname_any (s : ByteArray) (hs : s.size ≤ maxLen) (w : World) :
    Calls Tryz.prog 19 #[.string s] w fun e w' => e = .returned (.bool (isNameB s)) ∧ Below w.heap.size w w' := by
  have HS : Hid (s.size ≤ maxLen) := hs
  obtain ⟨A, hA⟩ : ∃ A, isTok 1 s = A := ⟨_, rfl⟩
  obtain ⟨C, hC⟩ : ∃ C, isWordB s = C := ⟨_, rfl⟩
  have HC : Hid (isWordB s = C) := hC
  have HA : Hid (isTok 1 s = A) := hA
  unfold isNameB
  rw [hA, hC]
  clear hA hC hs
  go_enter Tryz.func19, Tryz.ntmps19
  go_wp2_with fail
  refine (istok_any 1 s HS.out _).mono ?_
  rintro e w ⟨rfl, rfl⟩
  rw [HA.out]
  cases A
  · go_wp2
    go_ret
    exact ⟨rfl, Below.refl _ _⟩
  · go_wp2_with fail
    refine (isword_any s _).mono ?_
    rintro e w1 ⟨rfl, hb⟩
    rw [HC.out]
    go_wp2
    go_ret
    exact ⟨ret_bool (by simp), hb⟩

theorem word_hit (en : Int) (T : List Tok) (p : RP) (ws : List ByteArray) (m : Nat) (s : ByteArray) (hs : ws[m]? = some s) (he : p.er = 0) (h : ((txR en T p).toList == s.toList) = true) : wordR en T p (ws.drop m) m = ((m : Int), stepR p) := by
  obtain ⟨hm, rfl⟩ := List.getElem?_eq_some_iff.1 hs
  rw [List.drop_eq_getElem_cons hm, wordR, if_pos ⟨he, h⟩]
theorem word_miss (en : Int) (T : List Tok) (p : RP) (ws : List ByteArray) (m : Nat) (s : ByteArray) (hs : ws[m]? = some s) (h : ¬ (p.er = 0 ∧ ((txR en T p).toList == s.toList) = true)) : wordR en T p (ws.drop m) m = wordR en T p (ws.drop (m + 1)) (m + 1) := by
  obtain ⟨hm, rfl⟩ := List.getElem?_eq_some_iff.1 hs
  rw [List.drop_eq_getElem_cons hm, wordR, if_neg h]
theorem word_end (en : Int) (T : List Tok) (p : RP) (ws : List ByteArray) (m : Nat) (hm : ws.length ≤ m) : wordR en T p (ws.drop m) m = (0, wrongR 1 p) := by
  rw [List.drop_eq_nil_of_le hm, wordR]
set_option maxHeartbeats 1600000 in
set_option maxRecDepth 100000 in
theorem rword_any (c : RC) (p : RP) (ws : List ByteArray) (hs : ∀ s ∈ ws, solid s) (v : Value) (w : World) (h : RSt c p w) (hv : SArg w v ws) :
    Calls Tryz.prog 23 #[.pointer (some ⟨c.R, 0, none⟩), v] w fun e w' => e = .returned (.int .i64 (wordR c.en c.T p ws 0).1) ∧ RSt c (wordR c.en c.T p ws 0).2 w' ∧ Fr (XR9 c.R) w w' := by
  have HS : Hid (RSt c p w) := h
  have HSO : Hid (∀ s ∈ ws, solid s) := hs
  obtain ⟨Q, hQ⟩ : ∃ Q, wordR c.en c.T p ws 0 = Q := ⟨_, rfl⟩
  have HQ : Hid (wordR c.en c.T p (ws.drop 0) 0 = Q) := by rw [List.drop_zero]; exact hQ
  rw [hQ]
  obtain ⟨X, hX⟩ : ∃ X, txR c.en c.T p = X := ⟨_, rfl⟩
  have HX : Hid (txR c.en c.T p = X) := hX
  have HCT : Hid (∀ p' q : Nat, Calls Tryz.prog 17 #[.pointer (some ⟨c.R, 0, none⟩)] (w.drewN (p' + q)) fun e w' => e = .returned (.string X) ∧ ∃ n, w' = w.drewN (p' + n)) := by
    intro p' q
    refine (rtext_any c p _ (HS.out.below (drew9_below rfl))).mono ?_
    rintro e w' ⟨rfl, n, rfl⟩
    rw [hX]
    exact ⟨rfl, q + n, by rw [drewN_drewN, Nat.add_assoc]⟩
  have hk3 := h.kT
  obtain ⟨v', hR, hT⟩ := h.blk
  have hT4 : c.T.length ≤ 4000 := by obtain ⟨a, c, _, _, ht, _⟩ := hT; exact ht.1
  have k3 : w.cell? ⟨c.R, 3, none⟩ = some (.int .i64 p.er) := blk9 hR 3 _ rfl
  have k1 : w.cell? ⟨c.R, 1, none⟩ = some (.int .i64 (p.k : Int)) := blk9 hR 1 _ rfl
  have z1 := frz9 hR 1
  have hlt := h.lt
  obtain ⟨a, cc, rfl, hm, hr⟩ := hv
  have HV : Hid (∀ (i : Nat) (z : ByteArray), ws[i]? = some z → ∃ b off, a = some ⟨b, off, none⟩ ∧ b < w.heap.size ∧ w.cell? ⟨b, off + i, none⟩ = some (.string z)) := hr
  unfold maxLen at hm
  obtain ⟨hm1, hm⟩ := hm
  clear hR hT h hs hQ hX hr
  go_enter Tryz.func23, Tryz.ntmps23
  go_wp2_with fail
  go_loopw [5] (fun i wr => ∃ m : Nat, m ≤ ws.length ∧ i = .int .i64 m ∧ Hid (wordR c.en c.T p (ws.drop m) m = Q) ∧ ∃ n, wr = w.drewN n) (fun i _ => ws.length - (intOf i).toNat)
  case atStart => exact ⟨0, by omega, rfl, HQ, 0, rfl⟩
  case round =>
    obtain ⟨m, hml, rfl, hno, nq, rfl⟩ := hrel
    have HS1 : Hid (RSt c p (w.drewN nq)) := HS.out.below (drew9_below rfl)
    have HF1 : Hid (Fr (XR9 c.R) w (w.drewN nq)) := Fr.below (drew9_below rfl)
    by_cases hlt2 : m < ws.length
    · obtain ⟨z, hz⟩ : ∃ z, ws[m]? = some z := ⟨_, List.getElem?_eq_getElem hlt2⟩
      obtain ⟨b, off, rfl, hb, hc⟩ := HV.out m z hz
      by_cases he : p.er = 0
      · cases hq : (X.toList == z.toList)
        · have HN : Hid (wordR c.en c.T p (ws.drop (m + 1)) (m + 1) = Q) := (word_miss c.en c.T p ws m z hz (by rw [HX.out, hq]; simp)).symm.trans hno.out
          rw [he] at k3
          clear hz he
          go_wp2
          go_quiet ((go_at_call 17; exact HCT.out _ _))
          go_wp2
          go_roundw
          case rel => exact ⟨m + 1, by omega, by go_num, HN, _, rfl⟩
          case measure => simp [intOf]; omega
        · have HN : Hid (Q = ((m : Int), stepR p)) := hno.out.symm.trans (word_hit c.en c.T p ws m z hz he (by rw [HX.out]; exact hq))
          have hk : p.k < c.T.length := (tx_here c.en c.T p (by have h1 := HSO.out z (List.mem_of_getElem? hz); unfold solid at h1; rw [HX.out, beq_iff_eq.1 hq]; exact h1)).2
          have HS2 : Hid (∀ n, RSt c (stepR p) ((w.drewN n).setCell ⟨c.R, 1, none⟩ (.int .i64 ((p.k : Int) + 1)))) := fun n => (HS.out.below (drew9_below rfl)).step hk
          have HF2 : Hid (∀ n, Fr (XR9 c.R) w ((w.drewN n).setCell ⟨c.R, 1, none⟩ (.int .i64 ((p.k : Int) + 1)))) := fun n => (Fr.below (drew9_below rfl)).trans (fr_set _ _ _ _)
          rw [he] at k3
          clear hz he
          go_wp2
          go_quiet ((go_at_call 17; exact HCT.out _ _))
          go_wp2
          go_ret
          exact ⟨by rw [HN.out]; rfl, by rw [HN.out]; exact HS2.out _, HF2.out _⟩
      · have HN : Hid (wordR c.en c.T p (ws.drop (m + 1)) (m + 1) = Q) := (word_miss c.en c.T p ws m z hz (fun hq => he hq.1)).symm.trans hno.out
        have q0 : (p.er == 0) = false := by simpa using he
        clear hz he
        go_wp2
        go_quiet (fail)
        go_wp2
        go_roundw
        case rel => exact ⟨m + 1, by omega, by go_num, HN, _, rfl⟩
        case measure => simp [intOf]; omega
    · have HN : Hid (Q = (0, wrongR 1 p)) := hno.out.symm.trans (word_end c.en c.T p ws m (by omega))
      go_wp2_with fail
      refine (rwrong_any c p 1 _ HS1.out).mono ?_
      rintro e w2 ⟨rfl, h2, hf2⟩
      have HS2 : Hid (RSt c (wrongR 1 p) w2) := h2
      have HF2 : Hid (Fr (XR9 c.R) w w2) := HF1.out.trans hf2
      clear h2 hf2 k1 k3 z1
      go_wp2
      go_ret
      exact ⟨by rw [HN.out]; rfl, by rw [HN.out]; exact HS2.out, HF2.out⟩
end Go.Proofs.YtdjbejlbmaiocabGreatDoor
/-
  WALKS: the reference's reader: V, More.
-/
namespace Go.Proofs.YtdjbejlbmaiocabGreatDoor
open Go.RowKit

theorem tx_nothing (en : Int) (T : List Tok) (p : RP) (h : ¬ (p.er = 0 ∧ p.k < T.length)) : txR en T p = ByteArray.empty := by
  unfold txR
  by_cases he : p.er = 0
  · rw [if_pos he, drop_end en T p.k (by omega)]
  · rw [if_neg he]
theorem tx_name (en : Int) (T : List Tok) (p : RP) (h : isNameB (txR en T p) = true) : p.er = 0 ∧ p.k < T.length := by
  apply Classical.byContradiction
  intro hn
  rw [tx_nothing en T p hn, namex_empty] at h
  cases h
theorem RSt.size {c : RC} {p : RP} {w : World} (h : RSt c p w) : (txR c.en c.T p).size ≤ 4000 := by
  by_cases hn : p.er = 0 ∧ p.k < c.T.length
  · unfold txR
    rw [if_pos hn.1]
    obtain ⟨v, _, a, c', _, _, ht, _⟩ := h.blk
    have e : c.T[p.k]? = some c.T[p.k] := List.getElem?_eq_getElem hn.2
    rw [drop_head c.en c.T p.k _ e]
    exact (ht.2 _ (List.mem_of_getElem? e)).1
  · rw [tx_nothing _ _ _ hn]
    show 0 ≤ 4000
    omega
theorem vat_hit (s : ByteArray) (p : RP) (nm : List ByteArray) (m : Nat) (n : ByteArray) (hn : nm[m]? = some n) (h : (n.toList == s.toList) = true) : vAtR s p (nm.drop m) m = ((m : Int), stepR p) := by
  obtain ⟨hm, rfl⟩ := List.getElem?_eq_some_iff.1 hn
  rw [List.drop_eq_getElem_cons hm, vAtR, if_pos h]
theorem vat_miss (s : ByteArray) (p : RP) (nm : List ByteArray) (m : Nat) (n : ByteArray) (hn : nm[m]? = some n) (h : (n.toList == s.toList) = false) : vAtR s p (nm.drop m) m = vAtR s p (nm.drop (m + 1)) (m + 1) := by
  obtain ⟨hm, rfl⟩ := List.getElem?_eq_some_iff.1 hn
  rw [List.drop_eq_getElem_cons hm, vAtR, if_neg (by rw [h]; simp)]
theorem vat_end (s : ByteArray) (p : RP) (nm : List ByteArray) (m : Nat) (hm : nm.length ≤ m) : vAtR s p (nm.drop m) m = (0, wrongR 5 p) := by
  rw [List.drop_eq_nil_of_le hm, vAtR]
set_option maxHeartbeats 1600000 in
set_option maxRecDepth 100000 in
theorem rv_any (c : RC) (p : RP) (w : World) (h : RSt c p w) :
    Calls Tryz.prog 24 #[.pointer (some ⟨c.R, 0, none⟩)] w fun e w' => e = .returned (.int .i64 (vR c.en c.T c.nm p).1) ∧ RSt c (vR c.en c.T c.nm p).2 w' ∧ Fr (XR9 c.R) w w' := by
  have HS : Hid (RSt c p w) := h
  have HSZ : Hid ((txR c.en c.T p).size ≤ maxLen) := Nat.le_trans h.size (by unfold maxLen; omega)
  have HTN : Hid (isNameB (txR c.en c.T p) = true → p.er = 0 ∧ p.k < c.T.length) := tx_name c.en c.T p
  obtain ⟨X, hX⟩ : ∃ X, txR c.en c.T p = X := ⟨_, rfl⟩
  have HX : Hid (txR c.en c.T p = X) := hX
  obtain ⟨Q, hQ⟩ : ∃ Q, vR c.en c.T c.nm p = Q := ⟨_, rfl⟩
  rw [hQ]
  have HVR : Hid (Q = if isNameB X then vAtR X p c.nm 0 else (0, wrongR 1 p)) := by show _ = _; rw [← hQ]; unfold vR; rw [hX]
  clear hQ
  rw [hX] at HSZ HTN
  have hT4 : c.T.length ≤ 4000 := by obtain ⟨v, _, a, c, _, _, ht, _⟩ := h.blk; exact ht.1
  have hk3 := h.kT
  clear hX h
  go_enter Tryz.func24, Tryz.ntmps24
  go_wp2_with fail
  refine (rtext_any c p _ HS.out).mono ?_
  rintro e w1 ⟨rfl, n1, h1⟩
  rw [HX.out]
  have HB1 : Hid (Below w.heap.size w w1) := drew9_below h1
  clear h1
  go_wp2_with fail
  refine (isname_any X HSZ.out _).mono ?_
  rintro e w2 ⟨rfl, h2⟩
  have HB2 : Hid (Below w.heap.size w w2) := HB1.out.trans (h2.mono HB1.out.size)
  have HS2 : Hid (RSt c p w2) := HS.out.below HB2.out
  have HF2 : Hid (Fr (XR9 c.R) w w2) := Fr.below HB2.out
  clear h2
  cases hq : isNameB X
  · have HN : Hid (Q = (0, wrongR 1 p)) := by show _ = _; rw [HVR.out, hq]; rfl
    go_wp2_with fail
    refine (rwrong_any c p 1 _ HS2.out).mono ?_
    rintro e w3 ⟨rfl, h3, hf3⟩
    have HS3 : Hid (RSt c (wrongR 1 p) w3) := h3
    have HF3 : Hid (Fr (XR9 c.R) w w3) := HF2.out.trans hf3
    clear h3 hf3
    go_wp2
    go_ret
    exact ⟨by rw [HN.out]; rfl, by rw [HN.out]; exact HS3.out, HF3.out⟩
  · have HQ : Hid (vAtR X p (c.nm.drop 0) 0 = Q) := by show _ = _; rw [HVR.out, hq, List.drop_zero]; rfl
    obtain ⟨he, hk⟩ := HTN.out hq
    have HS4 : Hid (RSt c (stepR p) (w2.setCell ⟨c.R, 1, none⟩ (.int .i64 ((p.k : Int) + 1)))) := HS2.out.step hk
    have HF4 : Hid (Fr (XR9 c.R) w (w2.setCell ⟨c.R, 1, none⟩ (.int .i64 ((p.k : Int) + 1)))) := HF2.out.trans (fr_set _ _ _ _)
    obtain ⟨v, hR, _⟩ := HS2.out.blk
    obtain ⟨a, cc, hvv, hm, hr⟩ := HS2.out.nms
    rw [hvv] at hR
    have k1 : w2.cell? ⟨c.R, 1, none⟩ = some (.int .i64 (p.k : Int)) := blk9 hR 1 _ rfl
    have k4 : w2.cell? ⟨c.R, 4, none⟩ = some (.slice a c.nm.length cc) := blk9 hR 4 _ rfl
    have z1 := frz9 hR 1
    have HV : Hid (∀ (i : Nat) (t : ByteArray), c.nm[i]? = some t → ∃ b off, a = some ⟨b, off, none⟩ ∧ b ≠ c.R ∧ b < c.NB ∧ w2.cell? ⟨b, off + i * 3, none⟩ = some (.string t)) := hr
    unfold maxLen at hm
    obtain ⟨hm1, hm⟩ := hm
    clear hR hr hvv he
    go_wp2_with fail
    go_loopw [4] (fun i wr => ∃ m : Nat, m ≤ c.nm.length ∧ i = .int .i64 m ∧ Hid (vAtR X p (c.nm.drop m) m = Q) ∧ wr = w2) (fun i _ => c.nm.length - (intOf i).toNat)
    case atStart => exact ⟨0, by omega, rfl, HQ, rfl⟩
    case round =>
      obtain ⟨m, hml, rfl, hno, rfl⟩ := hrel
      by_cases hlt2 : m < c.nm.length
      · obtain ⟨z, hz⟩ : ∃ z, c.nm[m]? = some z := ⟨_, List.getElem?_eq_getElem hlt2⟩
        obtain ⟨b, off, rfl, _, hb, hc⟩ := HV.out m z hz
        cases hq2 : (z.toList == X.toList)
        · have HN2 : Hid (vAtR X p (c.nm.drop (m + 1)) (m + 1) = Q) := (vat_miss X p c.nm m z hz hq2).symm.trans hno.out
          clear hz
          go_wp2
          go_roundw
          case rel => exact ⟨m + 1, by omega, by go_num, HN2, by first | rfl | trivial⟩
          case measure => simp [intOf]; omega
        · have HN2 : Hid (Q = ((m : Int), stepR p)) := hno.out.symm.trans (vat_hit X p c.nm m z hz hq2)
          clear hz
          go_wp2
          go_ret
          exact ⟨by rw [HN2.out]; rfl, by rw [HN2.out]; exact HS4.out, HF4.out⟩
      · have HN2 : Hid (Q = (0, wrongR 5 p)) := hno.out.symm.trans (vat_end X p c.nm m (by omega))
        go_wp2_with fail
        refine (rwrong_any c p 5 _ HS2.out).mono ?_
        rintro e w3 ⟨rfl, h3, hf3⟩
        have HS3 : Hid (RSt c (wrongR 5 p) w3) := h3
        have HF3 : Hid (Fr (XR9 c.R) w w3) := HF2.out.trans hf3
        clear h3 hf3 k1 k4 z1
        go_wp2
        go_ret
        exact ⟨by rw [HN2.out]; rfl, by rw [HN2.out]; exact HS3.out, HF3.out⟩

theorem solid1 (b : UInt8) : solid ⟨#[b]⟩ := by
  unfold solid
  rw [ByteArray.toList_eq, ByteArray.toList_eq]
  rfl
set_option maxHeartbeats 1600000 in
set_option maxRecDepth 100000 in
theorem rmore1_any (c : RC) (p : RP) (w : World) (h : RSt c p w) :
    Calls Tryz.prog 51 #[.pointer (some ⟨c.R, 0, none⟩), .bool true] w fun e w' => e = .returned (.bool (more1R c.en c.T p).1) ∧ RSt c (more1R c.en c.T p).2 w' ∧ Fr (XR9 c.R) w w' := by
  have HS : Hid (RSt c p w) := h
  obtain ⟨Q, hQ⟩ : ∃ Q, more1R c.en c.T p = Q := ⟨_, rfl⟩
  rw [hQ]
  obtain ⟨p1, hp1⟩ : ∃ p1, needR c.en c.T ⟨#[91]⟩ p = p1 := ⟨_, rfl⟩
  have HP1 : Hid (needR c.en c.T ⟨#[91]⟩ p = p1) := hp1
  have HQ : Hid (Q = if ((txR c.en c.T p1).toList == [93]) = true then (false, needR c.en c.T ⟨#[93]⟩ p1) else (decide (p1.er = 0), p1)) := by
    show _ = _; rw [← hQ]; unfold more1R; rw [hp1]
  clear h hQ hp1
  go_enter Tryz.func51, Tryz.ntmps51
  go_wp2_with fail
  refine (rneed_any c p ⟨#[91]⟩ (solid1 _) _ HS.out).mono ?_
  rintro e w1 ⟨rfl, h1, hf1⟩
  rw [HP1.out] at h1
  have HS1 : Hid (RSt c p1 w1) := h1
  have HF1 : Hid (Fr (XR9 c.R) w w1) := hf1
  clear h1 hf1
  go_wp2_with fail
  refine (rtext_any c p1 _ HS1.out).mono ?_
  rintro e w2 ⟨rfl, n2, h2⟩
  have HB2 : Hid (Below w1.heap.size w1 w2) := drew9_below h2
  have HS2 : Hid (RSt c p1 w2) := HS1.out.below HB2.out
  have HF2 : Hid (Fr (XR9 c.R) w w2) := HF1.out.trans (Fr.below HB2.out)
  clear h2
  obtain ⟨X, hX⟩ : ∃ X, txR c.en c.T p1 = X := ⟨_, rfl⟩
  rw [hX] at HQ ⊢
  clear hX
  cases hq : (X.toList == [93])
  · have HN : Hid (Q = (decide (p1.er = 0), p1)) := by show _ = _; rw [HQ.out, hq]; rfl
    obtain ⟨v, hR, _⟩ := HS2.out.blk
    have k3 : w2.cell? ⟨c.R, 3, none⟩ = some (.int .i64 p1.er) := blk9 hR 3 _ rfl
    clear hR
    go_wp2
    go_ret
    exact ⟨by rw [HN.out]; exact ret_bool (by rw [Bool.eq_iff_iff]; simp), by rw [HN.out]; exact HS2.out, HF2.out⟩
  · have HN : Hid (Q = (false, needR c.en c.T ⟨#[93]⟩ p1)) := by show _ = _; rw [HQ.out, hq]; rfl
    go_wp2_with fail
    refine (rneed_any c p1 ⟨#[93]⟩ (solid1 _) _ HS2.out).mono ?_
    rintro e w3 ⟨rfl, h3, hf3⟩
    have HS3 : Hid (RSt c (needR c.en c.T ⟨#[93]⟩ p1) w3) := h3
    have HF3 : Hid (Fr (XR9 c.R) w w3) := HF2.out.trans hf3
    clear h3 hf3
    go_wp2
    go_ret
    exact ⟨by rw [HN.out]; rfl, by rw [HN.out]; exact HS3.out, HF3.out⟩
set_option maxHeartbeats 1600000 in
set_option maxRecDepth 100000 in
theorem rmore2_any (c : RC) (p : RP) (w : World) (h : RSt c p w) :
    Calls Tryz.prog 51 #[.pointer (some ⟨c.R, 0, none⟩), .bool false] w fun e w' => e = .returned (.bool (more2R c.en c.T p).1) ∧ RSt c (more2R c.en c.T p).2 w' ∧ Fr (XR9 c.R) w w' := by
  have HS : Hid (RSt c p w) := h
  obtain ⟨Q, hQ⟩ : ∃ Q, more2R c.en c.T p = Q := ⟨_, rfl⟩
  rw [hQ]
  have HQ : Hid (Q = if ((txR c.en c.T p).toList == [44]) = true then (true, needR c.en c.T ⟨#[44]⟩ p) else (false, needR c.en c.T ⟨#[93]⟩ p)) := by
    show _ = _; rw [← hQ]; rfl
  clear h hQ
  go_enter Tryz.func51, Tryz.ntmps51
  go_wp2_with fail
  refine (rtext_any c p _ HS.out).mono ?_
  rintro e w2 ⟨rfl, n2, h2⟩
  have HB2 : Hid (Below w.heap.size w w2) := drew9_below h2
  have HS2 : Hid (RSt c p w2) := HS.out.below HB2.out
  have HF2 : Hid (Fr (XR9 c.R) w w2) := Fr.below HB2.out
  clear h2
  obtain ⟨X, hX⟩ : ∃ X, txR c.en c.T p = X := ⟨_, rfl⟩
  rw [hX] at HQ ⊢
  clear hX
  cases hq : (X.toList == [44])
  · have HN : Hid (Q = (false, needR c.en c.T ⟨#[93]⟩ p)) := by show _ = _; rw [HQ.out, hq]; rfl
    go_wp2_with fail
    refine (rneed_any c p ⟨#[93]⟩ (solid1 _) _ HS2.out).mono ?_
    rintro e w3 ⟨rfl, h3, hf3⟩
    have HS3 : Hid (RSt c (needR c.en c.T ⟨#[93]⟩ p) w3) := h3
    have HF3 : Hid (Fr (XR9 c.R) w w3) := HF2.out.trans hf3
    clear h3 hf3
    go_wp2
    go_ret
    exact ⟨by rw [HN.out]; rfl, by rw [HN.out]; exact HS3.out, HF3.out⟩
  · have HN : Hid (Q = (true, needR c.en c.T ⟨#[44]⟩ p)) := by show _ = _; rw [HQ.out, hq]; rfl
    go_wp2_with fail
    refine (rneed_any c p ⟨#[44]⟩ (solid1 _) _ HS2.out).mono ?_
    rintro e w3 ⟨rfl, h3, hf3⟩
    have HS3 : Hid (RSt c (needR c.en c.T ⟨#[44]⟩ p) w3) := h3
    have HF3 : Hid (Fr (XR9 c.R) w w3) := HF2.out.trans hf3
    clear h3 hf3
    go_wp2
    go_ret
    exact ⟨by rw [HN.out]; rfl, by rw [HN.out]; exact HS3.out, HF3.out⟩
end Go.Proofs.YtdjbejlbmaiocabGreatDoor
/-
  WALKS: the reference's reader: K.
-/
namespace Go.Proofs.YtdjbejlbmaiocabGreatDoor
open Go.RowKit

theorem dig_snoc (l : List UInt8) (m : Nat) (a : UInt8) (h : l[m]? = some a) : digV (l.take (m + 1)) = digV (l.take m) * 10 + ((a.toNat : Int) - 48) := by
  rw [List.take_add_one, h]; simp [digV]
/-- A token that begins with a digit is a number. -/
theorem RSt.num {c : RC} {p : RP} {w : World} (h : RSt c p w) (hd : dig0 (txR c.en c.T p) = true) : p.k < c.T.length ∧ (1 ≤ (txR c.en c.T p).size ∧ (txR c.en c.T p).size ≤ 4) ∧ ∀ b ∈ (txR c.en c.T p).data.toList, 48 ≤ b.toNat ∧ b.toNat ≤ 57 := by
  by_cases hn : p.er = 0 ∧ p.k < c.T.length
  · obtain ⟨v, _, a, c', _, _, ht, _⟩ := h.blk
    have e : c.T[p.k]? = some c.T[p.k] := List.getElem?_eq_getElem hn.2
    have e2 : txR c.en c.T p = (c.T[p.k]).text := by unfold txR; rw [if_pos hn.1, drop_head c.en c.T p.k _ e]
    have hm := List.mem_of_getElem? e
    rw [e2] at hd ⊢
    have := (ht.2 _ hm).2 (h.dg _ hm hd)
    exact ⟨hn.2, this.1, this.2⟩
  · rw [tx_nothing _ _ _ hn] at hd
    cases hd
theorem dig0_at (X : ByteArray) (h : 0 < X.size) : dig0 X = isD X[0] := by
  have hl : 0 < X.data.toList.length := by rw [len_size]; exact h
  have e := list_get X 0 h hl
  unfold dig0
  match hq : X.data.toList with
  | [] => rw [hq] at hl; simp at hl
  | a :: r =>
    have : X[0] = a := by rw [← e]; simp [hq]
    rw [this]
set_option maxHeartbeats 3200000 in
set_option maxRecDepth 100000 in
theorem rk_any (c : RC) (p : RP) (w : World) (h : RSt c p w) :
    Calls Tryz.prog 21 #[.pointer (some ⟨c.R, 0, none⟩)] w fun e w' => e = .returned (.int .i64 (kR c.en c.T p).1) ∧ RSt c (kR c.en c.T p).2 w' ∧ Fr (XR9 c.R) w w' := by
  have HS : Hid (RSt c p w) := h
  obtain ⟨Q, hQ⟩ : ∃ Q, kR c.en c.T p = Q := ⟨_, rfl⟩
  rw [hQ]
  have HQ : Hid (Q = if ((txR c.en c.T p).toList == [45]) = true then kEndR c.en c.T true (needR c.en c.T ⟨#[45]⟩ p) else kEndR c.en c.T false p) := by
    show _ = _; rw [← hQ]; rfl
  have hT4 : c.T.length ≤ 4000 := by obtain ⟨v, _, a, c, _, _, ht, _⟩ := h.blk; exact ht.1
  clear h hQ
  go_enter Tryz.func21, Tryz.ntmps21
  go_wp2_with fail
  refine (rtext_any c p _ HS.out).mono ?_
  rintro e w2 ⟨rfl, n2, h2⟩
  have HB2 : Hid (Below w.heap.size w w2) := drew9_below h2
  have HS2 : Hid (RSt c p w2) := HS.out.below HB2.out
  have HF2 : Hid (Fr (XR9 c.R) w w2) := Fr.below HB2.out
  clear h2
  obtain ⟨X0, hX0⟩ : ∃ X, txR c.en c.T p = X := ⟨_, rfl⟩
  have HX0 : Hid (txR c.en c.T p = X0) := hX0
  rw [hX0] at HQ ⊢
  clear hX0
  cases hq0 : (X0.toList == [45])
  · have HQ1 : Hid (Q = kEndR c.en c.T false p) := by show _ = _; rw [HQ.out, hq0]; rfl
    obtain ⟨p1, hp1⟩ : ∃ p1, p = p1 := ⟨_, rfl⟩
    rw [hp1] at HS2 HQ1
    have HS1 := HS2
    have HF1 := HF2
    clear HQ HS2 HF2 HB2 hp1 HX0
    go_wp2_with fail
    refine (rtext_any c p1 _ HS1.out).mono ?_
    rintro e w2 ⟨rfl, n2, h2⟩
    have HB2 := drew9_below h2
    have HS2 : Hid (RSt c p1 w2) := HS1.out.below HB2
    have HF2 : Hid (Fr (XR9 c.R) w w2) := HF1.out.trans (Fr.below HB2)
    clear h2 HB2
    have HNUM : Hid (dig0 (txR c.en c.T p1) = true → p1.k < c.T.length ∧ (1 ≤ (txR c.en c.T p1).size ∧ (txR c.en c.T p1).size ≤ 4) ∧ ∀ b ∈ (txR c.en c.T p1).data.toList, 48 ≤ b.toNat ∧ b.toNat ≤ 57) := HS2.out.num
    have HQ2 : Hid (Q = if noNumR false (txR c.en c.T p1) = true then (0, wrongR 1 p1) else ((if false then -1 else 1) * digV (txR c.en c.T p1).data.toList, stepR p1)) := HQ1.out
    have hszm := HS2.out.size
    obtain ⟨X, hX⟩ : ∃ X, txR c.en c.T p1 = X := ⟨_, rfl⟩
    rw [hX] at HNUM HQ2 hszm ⊢
    clear hX HQ1
    by_cases hz : 0 < X.size
    · have hem : X.toList.isEmpty = false := by
        rw [ByteArray.toList_eq]; cases h : X.data.toList with
        | nil => have := len_size X; rw [h] at this; simp at this; omega
        | cons a r => rfl
      have hne : ¬ X.toList = [] := by intro h; rw [h] at hem; cases hem
      have hne2 : (X.toList == []) = false := by simpa using hne
      have HDA : Hid (dig0 X = isD X[0]) := dig0_at X hz
      cases hd : isD X[0]
      · have HN : Hid (Q = (0, wrongR 1 p1)) := by show _ = _; rw [HQ2.out, if_pos (by unfold noNumR; rw [HDA.out, hd]; rfl)]
        go_wp2_with fail
        refine (rdigit_any _ _).mono ?_
        rintro e w2 ⟨rfl, rfl⟩
        rw [hd]
        go_wp2_with fail
        refine (rwrong_any c p1 1 _ HS2.out).mono ?_
        rintro e w3 ⟨rfl, h3, hf3⟩
        have HS3 : Hid (RSt c (wrongR 1 p1) w3) := h3
        have HF3 : Hid (Fr (XR9 c.R) w w3) := HF2.out.trans hf3
        clear h3 hf3
        go_wp2
        go_ret
        exact ⟨by rw [HN.out]; rfl, by rw [HN.out]; exact HS3.out, HF3.out⟩
      · obtain ⟨hk, hsz, hdig⟩ := HNUM.out (HDA.out.trans hd)
        obtain ⟨v, hR, _⟩ := HS2.out.blk
        have k1 : w2.cell? ⟨c.R, 1, none⟩ = some (.int .i64 (p1.k : Int)) := blk9 hR 1 _ rfl
        have z1 := frz9 hR 1
        have HS3 : Hid (RSt c (stepR p1) (w2.setCell ⟨c.R, 1, none⟩ (.int .i64 ((p1.k : Int) + 1)))) := HS2.out.step hk
        have HF3 : Hid (Fr (XR9 c.R) w (w2.setCell ⟨c.R, 1, none⟩ (.int .i64 ((p1.k : Int) + 1)))) := HF2.out.trans (fr_set _ _ _ _)
        have HGET : Hid (∀ m (h : m < X.size), X[m].toNat < 256) := fun m h => X[m].toNat_lt
        have HDG : Hid (∀ m (h : m < X.size), ∃ D, digV (X.data.toList.take m) = D ∧ 0 ≤ D ∧ D ≤ 999 ∧ digV (X.data.toList.take (m + 1)) = D * 10 + ((X[m].toNat : Int) - 48) ∧ 48 ≤ X[m].toNat ∧ X[m].toNat ≤ 57) := by
          intro m h
          have hl : m < X.data.toList.length := by rw [len_size]; exact h
          have e := list_get X m h hl
          have e2 : X.data.toList[m]? = some X[m] := by rw [List.getElem?_eq_getElem hl, e]
          have hb := hdig X[m] (List.mem_of_getElem? e2)
          have b1 := (digV_bound (X.data.toList.take m) (by rw [List.length_take]; omega) (fun b hb => hdig b (List.mem_of_mem_take hb))).1
          have b2 := (digV_bound (X.data.toList.take (m + 1)) (by rw [List.length_take]; omega) (fun b hb => hdig b (List.mem_of_mem_take hb))).2
          have b3 := dig_snoc _ m _ e2
          exact ⟨_, rfl, b1, by omega, b3, hb.1, hb.2⟩
        have HDE : Hid (∃ D, digV (X.data.toList.take X.size) = D ∧ 0 ≤ D ∧ D ≤ 9999) := by
          obtain ⟨b1, b2⟩ := digV_bound (X.data.toList.take X.size) (by rw [List.length_take]; omega) (fun b hb => hdig b (List.mem_of_mem_take hb))
          exact ⟨_, rfl, b1, b2⟩
        have HTK : Hid (X.data.toList.take X.size = X.data.toList) := List.take_of_length_le (by rw [len_size]; exact Nat.le_refl _)
        clear hR hdig
        · have HQN : Hid (Q = ((1 : Int) * digV (X.data.toList.take X.size), stepR p1)) := by show _ = _; rw [HQ2.out, if_neg (by unfold noNumR; rw [HDA.out, hd]; simp), HTK.out]; rfl
          dsimp only
          go_wp2_with fail
          refine (rdigit_any _ _).mono ?_
          rintro e w2 ⟨rfl, rfl⟩
          rw [hd]
          go_wp2_with fail
          go_loopw [5, 6] (fun n i wr => ∃ m : Nat, m ≤ X.size ∧ i = .int .i64 m ∧ n = .int .i64 (digV (X.data.toList.take m)) ∧ wr = w2) (fun _ i _ => X.size - (intOf i).toNat)
          case atStart => exact ⟨0, by omega, rfl, rfl, rfl⟩
          case round =>
            obtain ⟨m, hml, rfl, rfl, rfl⟩ := hrel
            by_cases hlt2 : m < X.size
            · obtain ⟨D, hD, hD0, hD9, hDn, hc0, hc9⟩ := HDG.out m hlt2
              rw [hD]
              have hget := HGET.out m hlt2
              clear hD
              go_wp2
              go_roundw
              case rel => exact ⟨m + 1, by omega, by go_num, by rw [hDn]; go_num, by first | rfl | trivial⟩
              case measure => simp [intOf]; omega
            · obtain rfl : m = X.size := by omega
              obtain ⟨D, hD, hD0, hD9⟩ := HDE.out
              rw [hD]
              have HN : Hid (Q = ((1 : Int) * D, stepR p1)) := by show _ = _; rw [HQN.out, ← hD]
              clear hD
              go_wp2
              go_ret
              exact ⟨by rw [HN.out]; first | rfl | (congr 2; simp), by rw [HN.out]; exact HS3.out, HF3.out⟩
    · have hx : X = ByteArray.empty := by
        have h0 : X.data.toList = [] := List.eq_nil_of_length_eq_zero (by rw [len_size]; omega)
        cases X with
        | mk d => 
          have : d = #[] := by simpa using h0
          subst this; rfl
      have HN : Hid (Q = (0, wrongR 1 p1)) := by show _ = _; rw [HQ2.out, hx, if_pos (by unfold noNumR; rfl)]
      have hem : X.toList.isEmpty = true := by rw [hx]; decide +kernel
      have hne : X.toList = [] := by rw [hx]; decide +kernel
      have hne2 : (X.toList == []) = true := by rw [hne]; rfl
      clear hx
      go_wp2_with fail
      refine (rwrong_any c p1 1 _ HS2.out).mono ?_
      rintro e w3 ⟨rfl, h3, hf3⟩
      have HS3 : Hid (RSt c (wrongR 1 p1) w3) := h3
      have HF3 : Hid (Fr (XR9 c.R) w w3) := HF2.out.trans hf3
      clear h3 hf3
      go_wp2
      go_ret
      exact ⟨by rw [HN.out]; rfl, by rw [HN.out]; exact HS3.out, HF3.out⟩
  · have HQ1 : Hid (Q = kEndR c.en c.T true (needR c.en c.T ⟨#[45]⟩ p)) := by show _ = _; rw [HQ.out, hq0]; rfl
    go_wp2_with fail
    refine (rneed_any c p ⟨#[45]⟩ (solid1 _) _ HS2.out).mono ?_
    rintro e w1 ⟨rfl, h3, hf3⟩
    have HF1 : Hid (Fr (XR9 c.R) w w1) := HF2.out.trans hf3
    obtain ⟨p1, hp1⟩ : ∃ p1, needR c.en c.T ⟨#[45]⟩ p = p1 := ⟨_, rfl⟩
    rw [hp1] at h3 HQ1
    have HS1 : Hid (RSt c p1 w1) := h3
    clear h3 hf3 HQ HS2 HF2 HB2 hp1
    go_wp2_with fail
    refine (rtext_any c p1 _ HS1.out).mono ?_
    rintro e w2 ⟨rfl, n2, h2⟩
    have HB2 := drew9_below h2
    have HS2 : Hid (RSt c p1 w2) := HS1.out.below HB2
    have HF2 : Hid (Fr (XR9 c.R) w w2) := HF1.out.trans (Fr.below HB2)
    clear h2 HB2
    have HNUM : Hid (dig0 (txR c.en c.T p1) = true → p1.k < c.T.length ∧ (1 ≤ (txR c.en c.T p1).size ∧ (txR c.en c.T p1).size ≤ 4) ∧ ∀ b ∈ (txR c.en c.T p1).data.toList, 48 ≤ b.toNat ∧ b.toNat ≤ 57) := HS2.out.num
    have HQ2 : Hid (Q = if noNumR true (txR c.en c.T p1) = true then (0, wrongR 1 p1) else ((if true then -1 else 1) * digV (txR c.en c.T p1).data.toList, stepR p1)) := HQ1.out
    have hszm := HS2.out.size
    obtain ⟨X, hX⟩ : ∃ X, txR c.en c.T p1 = X := ⟨_, rfl⟩
    rw [hX] at HNUM HQ2 hszm ⊢
    clear hX HQ1
    by_cases hz : 0 < X.size
    · have hem : X.toList.isEmpty = false := by
        rw [ByteArray.toList_eq]; cases h : X.data.toList with
        | nil => have := len_size X; rw [h] at this; simp at this; omega
        | cons a r => rfl
      have hne : ¬ X.toList = [] := by intro h; rw [h] at hem; cases hem
      have hne2 : (X.toList == []) = false := by simpa using hne
      have HDA : Hid (dig0 X = isD X[0]) := dig0_at X hz
      cases hd : isD X[0]
      · have HN : Hid (Q = (0, wrongR 1 p1)) := by show _ = _; rw [HQ2.out, if_pos (by unfold noNumR; rw [HDA.out, hd]; rfl)]
        go_wp2_with fail
        refine (rdigit_any _ _).mono ?_
        rintro e w2 ⟨rfl, rfl⟩
        rw [hd]
        go_wp2_with fail
        refine (rwrong_any c p1 1 _ HS2.out).mono ?_
        rintro e w3 ⟨rfl, h3, hf3⟩
        have HS3 : Hid (RSt c (wrongR 1 p1) w3) := h3
        have HF3 : Hid (Fr (XR9 c.R) w w3) := HF2.out.trans hf3
        clear h3 hf3
        go_wp2
        go_ret
        exact ⟨by rw [HN.out]; rfl, by rw [HN.out]; exact HS3.out, HF3.out⟩
      · obtain ⟨hk, hsz, hdig⟩ := HNUM.out (HDA.out.trans hd)
        obtain ⟨v, hR, _⟩ := HS2.out.blk
        have k1 : w2.cell? ⟨c.R, 1, none⟩ = some (.int .i64 (p1.k : Int)) := blk9 hR 1 _ rfl
        have z1 := frz9 hR 1
        have HS3 : Hid (RSt c (stepR p1) (w2.setCell ⟨c.R, 1, none⟩ (.int .i64 ((p1.k : Int) + 1)))) := HS2.out.step hk
        have HF3 : Hid (Fr (XR9 c.R) w (w2.setCell ⟨c.R, 1, none⟩ (.int .i64 ((p1.k : Int) + 1)))) := HF2.out.trans (fr_set _ _ _ _)
        have HGET : Hid (∀ m (h : m < X.size), X[m].toNat < 256) := fun m h => X[m].toNat_lt
        have HDG : Hid (∀ m (h : m < X.size), ∃ D, digV (X.data.toList.take m) = D ∧ 0 ≤ D ∧ D ≤ 999 ∧ digV (X.data.toList.take (m + 1)) = D * 10 + ((X[m].toNat : Int) - 48) ∧ 48 ≤ X[m].toNat ∧ X[m].toNat ≤ 57) := by
          intro m h
          have hl : m < X.data.toList.length := by rw [len_size]; exact h
          have e := list_get X m h hl
          have e2 : X.data.toList[m]? = some X[m] := by rw [List.getElem?_eq_getElem hl, e]
          have hb := hdig X[m] (List.mem_of_getElem? e2)
          have b1 := (digV_bound (X.data.toList.take m) (by rw [List.length_take]; omega) (fun b hb => hdig b (List.mem_of_mem_take hb))).1
          have b2 := (digV_bound (X.data.toList.take (m + 1)) (by rw [List.length_take]; omega) (fun b hb => hdig b (List.mem_of_mem_take hb))).2
          have b3 := dig_snoc _ m _ e2
          exact ⟨_, rfl, b1, by omega, b3, hb.1, hb.2⟩
        have HDE : Hid (∃ D, digV (X.data.toList.take X.size) = D ∧ 0 ≤ D ∧ D ≤ 9999) := by
          obtain ⟨b1, b2⟩ := digV_bound (X.data.toList.take X.size) (by rw [List.length_take]; omega) (fun b hb => hdig b (List.mem_of_mem_take hb))
          exact ⟨_, rfl, b1, b2⟩
        have HTK : Hid (X.data.toList.take X.size = X.data.toList) := List.take_of_length_le (by rw [len_size]; exact Nat.le_refl _)
        clear hR hdig
        · cases hq : (X.toList == [48])
          · have HQN : Hid (Q = ((-1 : Int) * digV (X.data.toList.take X.size), stepR p1)) := by show _ = _; rw [HQ2.out, if_neg (by unfold noNumR; rw [HDA.out, hd, hq]; simp), HTK.out]; rfl
            go_wp2_with fail
            refine (rdigit_any _ _).mono ?_
            rintro e w2 ⟨rfl, rfl⟩
            rw [hd]
            go_wp2_with fail
            go_loopw [5, 6] (fun n i wr => ∃ m : Nat, m ≤ X.size ∧ i = .int .i64 m ∧ n = .int .i64 (digV (X.data.toList.take m)) ∧ wr = w2) (fun _ i _ => X.size - (intOf i).toNat)
            case atStart => exact ⟨0, by omega, rfl, rfl, rfl⟩
            case round =>
              obtain ⟨m, hml, rfl, rfl, rfl⟩ := hrel
              by_cases hlt2 : m < X.size
              · obtain ⟨D, hD, hD0, hD9, hDn, hc0, hc9⟩ := HDG.out m hlt2
                rw [hD]
                have hget := HGET.out m hlt2
                clear hD
                go_wp2
                go_roundw
                case rel => exact ⟨m + 1, by omega, by go_num, by rw [hDn]; go_num, by first | rfl | trivial⟩
                case measure => simp [intOf]; omega
              · obtain rfl : m = X.size := by omega
                obtain ⟨D, hD, hD0, hD9⟩ := HDE.out
                rw [hD]
                have HN : Hid (Q = ((-1 : Int) * D, stepR p1)) := by show _ = _; rw [HQN.out, ← hD]
                clear hD
                go_wp2
                go_ret
                exact ⟨by rw [HN.out]; first | rfl | (congr 2; simp), by rw [HN.out]; exact HS3.out, HF3.out⟩
          · have HN : Hid (Q = (0, wrongR 1 p1)) := by show _ = _; rw [HQ2.out, if_pos (by unfold noNumR; rw [HDA.out, hd, hq]; rfl)]
            clear k1 z1
            go_wp2_with fail
            refine (rdigit_any _ _).mono ?_
            rintro e w2 ⟨rfl, rfl⟩
            rw [hd]
            go_wp2_with fail
            refine (rwrong_any c p1 1 _ HS2.out).mono ?_
            rintro e w3 ⟨rfl, h3, hf3⟩
            have HS3 : Hid (RSt c (wrongR 1 p1) w3) := h3
            have HF3 : Hid (Fr (XR9 c.R) w w3) := HF2.out.trans hf3
            clear h3 hf3
            go_wp2
            go_ret
            exact ⟨by rw [HN.out]; rfl, by rw [HN.out]; exact HS3.out, HF3.out⟩
    · have hx : X = ByteArray.empty := by
        have h0 : X.data.toList = [] := List.eq_nil_of_length_eq_zero (by rw [len_size]; omega)
        cases X with
        | mk d => 
          have : d = #[] := by simpa using h0
          subst this; rfl
      have HN : Hid (Q = (0, wrongR 1 p1)) := by show _ = _; rw [HQ2.out, hx, if_pos (by unfold noNumR; rfl)]
      have hem : X.toList.isEmpty = true := by rw [hx]; decide +kernel
      have hne : X.toList = [] := by rw [hx]; decide +kernel
      have hne2 : (X.toList == []) = true := by rw [hne]; rfl
      clear hx
      go_wp2_with fail
      refine (rwrong_any c p1 1 _ HS2.out).mono ?_
      rintro e w3 ⟨rfl, h3, hf3⟩
      have HS3 : Hid (RSt c (wrongR 1 p1) w3) := h3
      have HF3 : Hid (Fr (XR9 c.R) w w3) := HF2.out.trans hf3
      clear h3 hf3
      go_wp2
      go_ret
      exact ⟨by rw [HN.out]; rfl, by rw [HN.out]; exact HS3.out, HF3.out⟩
end Go.Proofs.YtdjbejlbmaiocabGreatDoor
/-
  WALKS: the reference's reader: Ks, Vs.
-/
namespace Go.Proofs.YtdjbejlbmaiocabGreatDoor
open Go.RowKit

/-- A reader's part that never goes back. -/
def Onward {α : Type} (f : RP → α × RP) : Prop := ∀ p, p.k ≤ (f p).2.k
theorem wrong_k (e : Int) (p : RP) : (wrongR e p).k = p.k := by unfold wrongR; split <;> rfl
theorem need_k (en : Int) (T : List Tok) (s : ByteArray) (p : RP) : p.k ≤ (needR en T s p).k := by
  unfold needR
  split
  · split
    · show p.k ≤ p.k + 1; omega
    · rw [wrong_k]; exact Nat.le_refl _
  · exact Nat.le_refl _
theorem word_k (en : Int) (T : List Tok) (p : RP) : ∀ (ws : List ByteArray) (i : Nat), p.k ≤ (wordR en T p ws i).2.k
  | [], i => by unfold wordR; show _ ≤ (wrongR 1 p).k; rw [wrong_k]; exact Nat.le_refl _
  | s :: r, i => by
    unfold wordR
    split
    · show p.k ≤ p.k + 1; omega
    · exact word_k en T p r (i + 1)
theorem vat_k (s : ByteArray) (p : RP) : ∀ (nm : List ByteArray) (i : Nat), p.k ≤ (vAtR s p nm i).2.k
  | [], i => by unfold vAtR; show _ ≤ (wrongR 5 p).k; rw [wrong_k]; exact Nat.le_refl _
  | n :: r, i => by
    unfold vAtR
    split
    · show p.k ≤ p.k + 1; omega
    · exact vat_k s p r (i + 1)
theorem v_k (en : Int) (T : List Tok) (nm : List ByteArray) : Onward (vR en T nm) := fun p => by
  unfold vR
  split
  · exact vat_k _ _ _ _
  · show _ ≤ (wrongR 1 p).k; rw [wrong_k]; exact Nat.le_refl _
theorem kend_k (en : Int) (T : List Tok) (ng : Bool) : Onward (kEndR en T ng) := fun p => by
  unfold kEndR
  split
  · show _ ≤ (wrongR 1 p).k; rw [wrong_k]; exact Nat.le_refl _
  · show p.k ≤ p.k + 1; omega
theorem k_k (en : Int) (T : List Tok) : Onward (kR en T) := fun p => by
  unfold kR
  split
  · exact Nat.le_trans (need_k en T _ p) (kend_k en T true _)
  · exact kend_k en T false p
theorem lit_k (en : Int) (T : List Tok) (nm : List ByteArray) : Onward (litR en T nm) := fun p =>
  Nat.le_trans (v_k en T nm p) (Nat.le_trans (word_k en T _ _ _) (k_k en T _))
theorem more2_k (en : Int) (T : List Tok) (p : RP) (h : (more2R en T p).1 = true) : (more2R en T p).2.k = p.k + 1 := by
  unfold more2R at h ⊢
  split at h
  · rename_i hq
    rw [if_pos hq]
    have he : p.er = 0 := by
      apply Classical.byContradiction
      intro he
      rw [tx_still en T p he] at hq
      revert hq
      decide +kernel
    show (needR en T ⟨#[44]⟩ p).k = p.k + 1
    unfold needR
    rw [if_pos he, if_pos (by rw [show (⟨#[44]⟩ : ByteArray).toList = [44] by rw [ByteArray.toList_eq]]; exact hq)]
    rfl
  · cases h
def lenOf (v : Value) : Nat := match v with | .slice _ n _ => n | _ => 0
theorem loop_go {α : Type} (en : Int) (T : List Tok) (item : RP → α × RP) (f : Nat) (acc : List α) (p : RP) : loopR en T item (f + 1) acc (true, p) = loopR en T item f (acc ++ [(item p).1]) (more2R en T (item p).2) := by
  conv => lhs; unfold loopR
  rfl
theorem loop_end {α : Type} (en : Int) (T : List Tok) (item : RP → α × RP) (f : Nat) (acc : List α) (p : RP) : loopR en T item f acc (false, p) = (acc, p) := by
  cases f <;> (unfold loopR; rfl)

set_option maxHeartbeats 3200000 in
set_option maxRecDepth 100000 in
theorem rks_any (c : RC) (p : RP) (w : World) (h : RSt c p w) :
    Calls Tryz.prog 49 #[.pointer (some ⟨c.R, 0, none⟩)] w fun e w' => ∃ v, e = .returned v ∧ w'.ownsRow w.heap.size 3 1 v (listR c.en c.T (kR c.en c.T) p).1.length ((listR c.en c.T (kR c.en c.T) p).1.map (Value.int .i64)) ∧ RSt c (listR c.en c.T (kR c.en c.T) p).2 w' ∧ Fr (XR9 c.R) w w' := by
  have HS : Hid (RSt c p w) := h
  obtain ⟨Q, hQ⟩ : ∃ Q, listR c.en c.T (kR c.en c.T) p = Q := ⟨_, rfl⟩
  rw [hQ]
  have HQ : Hid (loopR c.en c.T (kR c.en c.T) (c.T.length + 2) [] (more1R c.en c.T p) = Q) := hQ
  have hT4 : c.T.length ≤ 4000 := by obtain ⟨v, _, a, c, _, _, ht, _⟩ := h.blk; exact ht.1
  have HLT := h.lt
  have HNW : Hid (c.N ≤ w.heap.size ∧ c.NB ≤ w.heap.size) := ⟨h.Nw, h.nb⟩
  obtain ⟨i0, hi, hz0, hz1, hz2⟩ := info_parts Tryz.infoInt5
  clear h hQ
  go_enter Tryz.func49, Tryz.ntmps49
  go_wp2_with fail
  refine (rmore1_any c p _ HS.out).mono ?_
  rintro e w1 ⟨rfl, h1, hf1⟩
  obtain ⟨q, hq⟩ : ∃ q, more1R c.en c.T p = q := ⟨_, rfl⟩
  rw [hq] at HQ h1 ⊢
  obtain ⟨b, p1⟩ := q
  have HS1 : Hid (RSt c p1 w1) := h1
  have HF1 : Hid (Fr (XR9 c.R) w w1) := hf1
  clear h1 hf1 hq
  dsimp only
  go_wp2_with fail
  go_loopw [3, 4] (fun o mo wr => ∃ (f : Nat) (acc : List Int) (b : Bool) (p : RP), Hid (loopR c.en c.T (kR c.en c.T) f acc (b, p) = Q) ∧ mo = .bool b ∧ Hid (RSt c p wr) ∧ wr.ownsRow w.heap.size 3 1 o acc.length (acc.map (Value.int .i64)) ∧ Hid (Fr (XR9 c.R) w wr) ∧ acc.length + f = c.T.length + 2 ∧ (b = true → c.T.length + 2 ≤ f + p.k)) (fun o _ _ => c.T.length + 3 - lenOf o)
  case atStart => exact ⟨c.T.length + 2, [], b, p1, HQ, rfl, HS1, World.ownsRow_nil _ _ _ _, HF1, by simp, fun _ => by omega⟩
  case round =>
    obtain ⟨f, acc, b, p2, HQ2, rfl, HS2, hown, HF2, haf, hbf⟩ := hrel
    have HOW : Hid (wr.ownsRow w.heap.size 3 1 u3 acc.length (acc.map (Value.int .i64))) := hown
    obtain ⟨al, cl, rfl⟩ := own_form hown
    have HKT := HS2.out.kT
    clear hown
    cases b
    · have HE : Hid (Q = (acc, p2)) := HQ2.out.symm.trans (loop_end _ _ _ _ _ _)
      clear hbf
      go_wp2
      go_ret
      exact ⟨_, rfl, by rw [HE.out]; exact HOW.out, by rw [HE.out]; exact HS2.out, HF2.out⟩
    · have hbf2 := hbf rfl
      obtain ⟨g, rfl⟩ : ∃ g, f = g + 1 := ⟨f - 1, by omega⟩
      have HQ3 : Hid (loopR c.en c.T (kR c.en c.T) g (acc ++ [((kR c.en c.T) p2).1]) (more2R c.en c.T ((kR c.en c.T) p2).2) = Q) := (loop_go _ _ _ _ _ _).symm.trans HQ2.out
      have HKK : Hid (p2.k ≤ ((kR c.en c.T) p2).2.k) := k_k c.en c.T p2
      clear hbf HQ2
      go_wp2_with fail
      refine (rk_any c p2 _ HS2.out).mono ?_
      rintro e w3 ⟨rfl, h3, hf3⟩
      obtain ⟨X, hX⟩ : ∃ X, (kR c.en c.T) p2 = X := ⟨_, rfl⟩
      rw [hX] at HQ3 HKK h3 ⊢
      obtain ⟨x, p3⟩ := X
      have HS3 : Hid (RSt c p3 w3) := h3
      have HF3 : Hid (Fr (XR9 c.R) w w3) := HF2.out.trans hf3
      have HO3 : Hid (w3.ownsRow w.heap.size 3 1 (.slice al acc.length cl) acc.length (acc.map (Value.int .i64))) := own_fr HOW.out hf3 (fun k hk => by rw [hk]; exact HLT)
      have hsz3 : w.heap.size ≤ w3.heap.size := HF3.out.size
      have hox := HO3.out.alloc (.cells #[.int .i64 x] 3)
      clear h3 hf3 hX HOW
      dsimp only at *
      go_wp2_with (at_builtin; refine wpList_append_own _ rfl _ _ 50 rfl w.heap.size 3 i0 (.int .i64 0) 1 8 Tryz.underInts5 hi hz0 hz1 hz2 rfl (by decide) _ _ _ rfl hox ⟨w3.heap.size, 0, none⟩ 1 1 [.int .i64 x] rfl rfl ?c1 ?c2 ?c3 ?c4 ?c5 ?_)
      case c1 => exact one_laid5 w3 x
      case c2 => intro u hu; rcases List.mem_singleton.1 hu with rfl; rfl
      case c3 => unfold maxLen; omega
      case c4 => omega
      case c5 => simp; omega
      intro v9 w9 hown9 hg9 _
      have hrow : ∀ k, (Value.slice al acc.length cl).ownBlock = some k → w.heap.size ≤ k := fun k hk => (HO3.out.lt k hk).1
      have HS9 : Hid (RSt c p3 w9) := (HS3.out.below (below_alloc _ _)).grown hg9 (fun k hk => by have h1 := hrow k hk; have h2 := HNW.out; exact ⟨by omega, by omega, by omega⟩)
      have HF9 : Hid (Fr (XR9 c.R) w w9) := (HF3.out.alloc _).grown hg9 (fun k hk => Or.inr (hrow k hk))
      have HO9 : Hid (w9.ownsRow w.heap.size 3 1 v9 (acc ++ [x]).length ((acc ++ [x]).map (Value.int .i64))) := by
        show w9.ownsRow _ _ _ _ _ _
        rw [List.length_append, List.map_append]; exact hown9
      clear hown9 hg9 hrow hox
      obtain ⟨a9, c9, rfl⟩ := own_form HO9.out
      go_wp2_with fail
      refine (rmore2_any c p3 _ HS9.out).mono ?_
      rintro e w4 ⟨rfl, h4, hf4⟩
      have HM2 : Hid ((more2R c.en c.T p3).1 = true → (more2R c.en c.T p3).2.k = p3.k + 1) := more2_k c.en c.T p3
      obtain ⟨q, hq⟩ : ∃ q, more2R c.en c.T p3 = q := ⟨_, rfl⟩
      rw [hq] at HQ3 h4 HM2 ⊢
      obtain ⟨b4, p4⟩ := q
      have HS4 : Hid (RSt c p4 w4) := h4
      have HF4 : Hid (Fr (XR9 c.R) w w4) := HF9.out.trans hf4
      have HO4 : Hid (w4.ownsRow w.heap.size 3 1 (.slice a9 (acc ++ [x]).length c9) (acc ++ [x]).length ((acc ++ [x]).map (Value.int .i64))) := own_fr HO9.out hf4 (fun k hk => by rw [hk]; exact HLT)
      clear h4 hf4 hq
      dsimp only at *
      have HB4 : Hid (b4 = true → c.T.length + 2 ≤ g + p4.k) := fun hb => by have h1 := HM2.out hb; have h2 := HKK.out; omega
      have HA4 : Hid ((acc ++ [x]).length + g = c.T.length + 2) := by show _ = _; simp; omega
      have HL4 : Hid ((acc ++ [x]).length = acc.length + 1) := by show _ = _; simp
      obtain ⟨acc2, hacc2⟩ : ∃ acc2, acc ++ [x] = acc2 := ⟨_, rfl⟩
      rw [hacc2] at HQ3 HO4 HA4 HL4 HO9 ⊢
      clear hacc2
      go_wp2
      go_roundw
      case rel => exact ⟨g, acc2, b4, p4, HQ3, rfl, HS4, HO4.out, HF4, HA4.out, HB4.out⟩
      case measure => have h1 := HL4.out; have h2 := HA4.out; simp [lenOf]; omega
set_option maxHeartbeats 3200000 in
set_option maxRecDepth 100000 in
theorem rvs_any (c : RC) (p : RP) (w : World) (h : RSt c p w) :
    Calls Tryz.prog 50 #[.pointer (some ⟨c.R, 0, none⟩)] w fun e w' => ∃ v, e = .returned v ∧ w'.ownsRow w.heap.size 3 1 v (listR c.en c.T (vR c.en c.T c.nm) p).1.length ((listR c.en c.T (vR c.en c.T c.nm) p).1.map (Value.int .i64)) ∧ RSt c (listR c.en c.T (vR c.en c.T c.nm) p).2 w' ∧ Fr (XR9 c.R) w w' := by
  have HS : Hid (RSt c p w) := h
  obtain ⟨Q, hQ⟩ : ∃ Q, listR c.en c.T (vR c.en c.T c.nm) p = Q := ⟨_, rfl⟩
  rw [hQ]
  have HQ : Hid (loopR c.en c.T (vR c.en c.T c.nm) (c.T.length + 2) [] (more1R c.en c.T p) = Q) := hQ
  have hT4 : c.T.length ≤ 4000 := by obtain ⟨v, _, a, c, _, _, ht, _⟩ := h.blk; exact ht.1
  have HLT := h.lt
  have HNW : Hid (c.N ≤ w.heap.size ∧ c.NB ≤ w.heap.size) := ⟨h.Nw, h.nb⟩
  obtain ⟨i0, hi, hz0, hz1, hz2⟩ := info_parts Tryz.infoInt5
  clear h hQ
  go_enter Tryz.func50, Tryz.ntmps50
  go_wp2_with fail
  refine (rmore1_any c p _ HS.out).mono ?_
  rintro e w1 ⟨rfl, h1, hf1⟩
  obtain ⟨q, hq⟩ : ∃ q, more1R c.en c.T p = q := ⟨_, rfl⟩
  rw [hq] at HQ h1 ⊢
  obtain ⟨b, p1⟩ := q
  have HS1 : Hid (RSt c p1 w1) := h1
  have HF1 : Hid (Fr (XR9 c.R) w w1) := hf1
  clear h1 hf1 hq
  dsimp only
  go_wp2_with fail
  go_loopw [3, 4] (fun o mo wr => ∃ (f : Nat) (acc : List Int) (b : Bool) (p : RP), Hid (loopR c.en c.T (vR c.en c.T c.nm) f acc (b, p) = Q) ∧ mo = .bool b ∧ Hid (RSt c p wr) ∧ wr.ownsRow w.heap.size 3 1 o acc.length (acc.map (Value.int .i64)) ∧ Hid (Fr (XR9 c.R) w wr) ∧ acc.length + f = c.T.length + 2 ∧ (b = true → c.T.length + 2 ≤ f + p.k)) (fun o _ _ => c.T.length + 3 - lenOf o)
  case atStart => exact ⟨c.T.length + 2, [], b, p1, HQ, rfl, HS1, World.ownsRow_nil _ _ _ _, HF1, by simp, fun _ => by omega⟩
  case round =>
    obtain ⟨f, acc, b, p2, HQ2, rfl, HS2, hown, HF2, haf, hbf⟩ := hrel
    have HOW : Hid (wr.ownsRow w.heap.size 3 1 u3 acc.length (acc.map (Value.int .i64))) := hown
    obtain ⟨al, cl, rfl⟩ := own_form hown
    have HKT := HS2.out.kT
    clear hown
    cases b
    · have HE : Hid (Q = (acc, p2)) := HQ2.out.symm.trans (loop_end _ _ _ _ _ _)
      clear hbf
      go_wp2
      go_ret
      exact ⟨_, rfl, by rw [HE.out]; exact HOW.out, by rw [HE.out]; exact HS2.out, HF2.out⟩
    · have hbf2 := hbf rfl
      obtain ⟨g, rfl⟩ : ∃ g, f = g + 1 := ⟨f - 1, by omega⟩
      have HQ3 : Hid (loopR c.en c.T (vR c.en c.T c.nm) g (acc ++ [((vR c.en c.T c.nm) p2).1]) (more2R c.en c.T ((vR c.en c.T c.nm) p2).2) = Q) := (loop_go _ _ _ _ _ _).symm.trans HQ2.out
      have HKK : Hid (p2.k ≤ ((vR c.en c.T c.nm) p2).2.k) := v_k c.en c.T c.nm p2
      clear hbf HQ2
      go_wp2_with fail
      refine (rv_any c p2 _ HS2.out).mono ?_
      rintro e w3 ⟨rfl, h3, hf3⟩
      obtain ⟨X, hX⟩ : ∃ X, (vR c.en c.T c.nm) p2 = X := ⟨_, rfl⟩
      rw [hX] at HQ3 HKK h3 ⊢
      obtain ⟨x, p3⟩ := X
      have HS3 : Hid (RSt c p3 w3) := h3
      have HF3 : Hid (Fr (XR9 c.R) w w3) := HF2.out.trans hf3
      have HO3 : Hid (w3.ownsRow w.heap.size 3 1 (.slice al acc.length cl) acc.length (acc.map (Value.int .i64))) := own_fr HOW.out hf3 (fun k hk => by rw [hk]; exact HLT)
      have hsz3 : w.heap.size ≤ w3.heap.size := HF3.out.size
      have hox := HO3.out.alloc (.cells #[.int .i64 x] 3)
      clear h3 hf3 hX HOW
      dsimp only at *
      go_wp2_with (at_builtin; refine wpList_append_own _ rfl _ _ 50 rfl w.heap.size 3 i0 (.int .i64 0) 1 8 Tryz.underInts5 hi hz0 hz1 hz2 rfl (by decide) _ _ _ rfl hox ⟨w3.heap.size, 0, none⟩ 1 1 [.int .i64 x] rfl rfl ?c1 ?c2 ?c3 ?c4 ?c5 ?_)
      case c1 => exact one_laid5 w3 x
      case c2 => intro u hu; rcases List.mem_singleton.1 hu with rfl; rfl
      case c3 => unfold maxLen; omega
      case c4 => omega
      case c5 => simp; omega
      intro v9 w9 hown9 hg9 _
      have hrow : ∀ k, (Value.slice al acc.length cl).ownBlock = some k → w.heap.size ≤ k := fun k hk => (HO3.out.lt k hk).1
      have HS9 : Hid (RSt c p3 w9) := (HS3.out.below (below_alloc _ _)).grown hg9 (fun k hk => by have h1 := hrow k hk; have h2 := HNW.out; exact ⟨by omega, by omega, by omega⟩)
      have HF9 : Hid (Fr (XR9 c.R) w w9) := (HF3.out.alloc _).grown hg9 (fun k hk => Or.inr (hrow k hk))
      have HO9 : Hid (w9.ownsRow w.heap.size 3 1 v9 (acc ++ [x]).length ((acc ++ [x]).map (Value.int .i64))) := by
        show w9.ownsRow _ _ _ _ _ _
        rw [List.length_append, List.map_append]; exact hown9
      clear hown9 hg9 hrow hox
      obtain ⟨a9, c9, rfl⟩ := own_form HO9.out
      go_wp2_with fail
      refine (rmore2_any c p3 _ HS9.out).mono ?_
      rintro e w4 ⟨rfl, h4, hf4⟩
      have HM2 : Hid ((more2R c.en c.T p3).1 = true → (more2R c.en c.T p3).2.k = p3.k + 1) := more2_k c.en c.T p3
      obtain ⟨q, hq⟩ : ∃ q, more2R c.en c.T p3 = q := ⟨_, rfl⟩
      rw [hq] at HQ3 h4 HM2 ⊢
      obtain ⟨b4, p4⟩ := q
      have HS4 : Hid (RSt c p4 w4) := h4
      have HF4 : Hid (Fr (XR9 c.R) w w4) := HF9.out.trans hf4
      have HO4 : Hid (w4.ownsRow w.heap.size 3 1 (.slice a9 (acc ++ [x]).length c9) (acc ++ [x]).length ((acc ++ [x]).map (Value.int .i64))) := own_fr HO9.out hf4 (fun k hk => by rw [hk]; exact HLT)
      clear h4 hf4 hq
      dsimp only at *
      have HB4 : Hid (b4 = true → c.T.length + 2 ≤ g + p4.k) := fun hb => by have h1 := HM2.out hb; have h2 := HKK.out; omega
      have HA4 : Hid ((acc ++ [x]).length + g = c.T.length + 2) := by show _ = _; simp; omega
      have HL4 : Hid ((acc ++ [x]).length = acc.length + 1) := by show _ = _; simp
      obtain ⟨acc2, hacc2⟩ : ∃ acc2, acc ++ [x] = acc2 := ⟨_, rfl⟩
      rw [hacc2] at HQ3 HO4 HA4 HL4 HO9 ⊢
      clear hacc2
      go_wp2
      go_roundw
      case rel => exact ⟨g, acc2, b4, p4, HQ3, rfl, HS4, HO4.out, HF4, HA4.out, HB4.out⟩
      case measure => have h1 := HL4.out; have h2 := HA4.out; simp [lenOf]; omega
end Go.Proofs.YtdjbejlbmaiocabGreatDoor
/-
  WALKS: the reference's reader: Lit.
-/
namespace Go.Proofs.YtdjbejlbmaiocabGreatDoor
open Go.RowKit

theorem RSt.set {c : RC} {p : RP} {w : World} (h : RSt c p w) {q : Addr} (hR : q.block ≠ c.R) (hN : c.N ≤ q.block) (hNB : c.NB ≤ q.block) (u : Value) : RSt c p (w.setCell q u) := by
  obtain ⟨h1, h2, hn, h3, hd, h4, v, hb, hT⟩ := h
  refine ⟨h1, by simpa using h2, by simpa using hn, h3, hd, ?_, v, (Below.heap_setCell _ _ _ _ (by omega)).trans hb, hT.old fun q' hq => World.cell?_of_block (Below.heap_setCell _ _ _ _ (by omega))⟩
  obtain ⟨a, cc, hv, hm, hr⟩ := h4
  refine ⟨a, cc, hv, hm, fun i t ht => ?_⟩
  obtain ⟨b, off, ha, hb2, hlt, hc⟩ := hr i t ht
  exact ⟨b, off, ha, hb2, hlt, (World.cell?_of_block (Below.heap_setCell _ _ _ _ (fun e => by have e2 : b = q.block := e; omega))).trans hc⟩
theorem word_bound (en : Int) (T : List Tok) (p : RP) : ∀ (ws : List ByteArray) (i : Nat), 0 ≤ (wordR en T p ws i).1 ∧ (wordR en T p ws i).1 ≤ ((i + ws.length : Nat) : Int)
  | [], i => by unfold wordR; simp
  | s :: r, i => by
    unfold wordR
    split
    · simp; omega
    · have := word_bound en T p r (i + 1)
      simp at this ⊢
      omega
theorem solid_ops : ∀ s ∈ opWL.tail, solid s := by
  intro s hs
  simp only [opWL, List.tail_cons, List.mem_cons, List.not_mem_nil, or_false] at hs
  rcases hs with rfl | rfl | rfl | rfl <;> (unfold solid; rw [ByteArray.toList_eq, ByteArray.toList_eq]; rfl)
set_option maxHeartbeats 1600000 in
set_option maxRecDepth 100000 in
theorem rlitR_any (c : RC) (p : RP) (w : World) (h : RSt c p w) :
    Calls Tryz.prog 52 #[.pointer (some ⟨c.R, 0, none⟩)] w fun e w' => e = .returned (litA (litR c.en c.T c.nm p).1) ∧ RSt c (litR c.en c.T c.nm p).2 w' ∧ Fr (XR9 c.R) w w' := by
  have HS : Hid (RSt c p w) := h
  obtain ⟨Q, hQ⟩ : ∃ Q, litR c.en c.T c.nm p = Q := ⟨_, rfl⟩
  rw [hQ]
  have HQ : Hid (Q = (⟨(vR c.en c.T c.nm p).1, 1 + (wordR c.en c.T (vR c.en c.T c.nm p).2 opWL.tail 0).1, (kR c.en c.T (wordR c.en c.T (vR c.en c.T c.nm p).2 opWL.tail 0).2).1⟩, (kR c.en c.T (wordR c.en c.T (vR c.en c.T c.nm p).2 opWL.tail 0).2).2)) := by
    show _ = _; rw [← hQ]; rfl
  have hlt := h.lt
  have HNW : Hid (c.N ≤ w.heap.size ∧ c.NB ≤ w.heap.size) := ⟨h.Nw, h.nb⟩
  clear h hQ
  go_enter Tryz.func52, Tryz.ntmps52
  go_wp2_with fail
  have hb0 : Below w.heap.size w ((w.alloc (.cells #[.int .i64 0, .int .i64 0, .int .i64 0] 76)).alloc (.cells #[.int .i64 0, .int .i64 0, .int .i64 0] 76)) := (below_alloc _ _).alloc (by simp) _
  refine (rv_any c p _ (HS.out.below hb0)).mono ?_
  rintro e w1 ⟨rfl, h1, hf1⟩
  obtain ⟨q, hq⟩ : ∃ q, vR c.en c.T c.nm p = q := ⟨_, rfl⟩
  rw [hq] at HQ h1 ⊢
  obtain ⟨x, p1⟩ := q
  clear hq
  dsimp only at HQ h1 ⊢
  have HB0 : Hid (w1.heap[w.heap.size]? = some (.cells #[.int .i64 0, .int .i64 0, .int .i64 0] 76)) := (hf1.block _ (by simp; omega) (by show ¬ _ = _; omega)).trans ((Below.heap_alloc _ _ _ (by simp)).trans (heap_alloc_new w _))
  have hb1 : w1.heap[w.heap.size + 1]? = some (.cells #[.int .i64 0, .int .i64 0, .int .i64 0] 76) := (hf1.block _ (by simp) (by show ¬ _ = _; omega)).trans (by have := heap_alloc_new (w.alloc (.cells #[.int .i64 0, .int .i64 0, .int .i64 0] 76)) (.cells #[.int .i64 0, .int .i64 0, .int .i64 0] 76); rw [show (w.alloc (.cells #[.int .i64 0, .int .i64 0, .int .i64 0] 76)).heap.size = w.heap.size + 1 by simp] at this; exact this)
  have HF1 : Hid (Fr (XR9 c.R) w w1) := (Fr.below hb0).trans hf1
  have HS1 : Hid (RSt c p1 w1) := h1
  have z1 := frz9 hb1 0
  have HB1 : Hid ((w1.setCell ⟨w.heap.size + 1, 0, none⟩ (.int .i64 x)).heap[w.heap.size + 1]? = some (.cells #[.int .i64 x, .int .i64 0, .int .i64 0] 76)) := by
    show _ = _; rw [heap_setCell_same w1 _ 0 _ _ _ hb1]; rfl
  have HS1' : Hid (RSt c p1 (w1.setCell ⟨w.heap.size + 1, 0, none⟩ (.int .i64 x))) := HS1.out.set (by show w.heap.size + 1 ≠ _; omega) (by have := HNW.out.1; show _ ≤ w.heap.size + 1; omega) (by have := HNW.out.2; show _ ≤ w.heap.size + 1; omega) _
  have HF1' : Hid (Fr (XR9 c.R) w (w1.setCell ⟨w.heap.size + 1, 0, none⟩ (.int .i64 x))) := HF1.out.setNew (by show _ ≤ w.heap.size + 1; omega) _
  have HB0' : Hid ((w1.setCell ⟨w.heap.size + 1, 0, none⟩ (.int .i64 x)).heap[w.heap.size]? = some (.cells #[.int .i64 0, .int .i64 0, .int .i64 0] 76)) := (Below.heap_setCell _ _ _ _ (fun e => by have e2 : w.heap.size = w.heap.size + 1 := e; omega)).trans HB0.out
  obtain ⟨y1, hy1⟩ : ∃ y1, w1.setCell ⟨w.heap.size + 1, 0, none⟩ (.int .i64 x) = y1 := ⟨_, rfl⟩
  have HZ1 : Hid (w1.heap.size = y1.heap.size) := by show _ = _; rw [← hy1]; simp
  have HY1 : Hid (w1.setCell ⟨w.heap.size + 1, 0, none⟩ (.int .i64 x) = y1) := hy1
  rw [hy1] at HB1 HS1' HF1' HB0'
  have c0 : w1.cell? ⟨w.heap.size + 1, 0, none⟩ = some (.int .i64 0) := blk9 hb1 0 _ rfl
  clear hf1 hb1 h1 hy1 HB0 HF1 HS1 hb0
  go_wp2_with fail
  rw [HY1.out]
  clear z1 c0
  have hsz : w.heap.size ≤ y1.heap.size := HF1'.out.size
  have hlt1 : w.heap.size + 1 < y1.heap.size := (Array.getElem?_eq_some_iff.1 HB1.out).1
  have HSA : Hid (SArg (y1.alloc (.cells #[.string ⟨#[60, 61]⟩, .string ⟨#[62, 61]⟩, .string ⟨#[61, 61]⟩, .string ⟨#[33, 61]⟩] 9)) (.slice (some ⟨w1.heap.size, 0, none⟩) 4 4) opWL.tail) := strs9 y1 opWL.tail _ HZ1.out (by decide)
  refine (rword_any c p1 opWL.tail solid_ops _ _ ?_ HSA.out).mono ?_
  · exact HS1'.out.below (below_alloc _ _)
  rintro e w2 ⟨rfl, h2, hf2⟩
  have HWB : Hid (0 ≤ (wordR c.en c.T p1 opWL.tail 0).1 ∧ (wordR c.en c.T p1 opWL.tail 0).1 ≤ ((0 + opWL.tail.length : Nat) : Int)) := word_bound c.en c.T p1 opWL.tail 0
  obtain ⟨q, hq⟩ : ∃ q, wordR c.en c.T p1 opWL.tail 0 = q := ⟨_, rfl⟩
  rw [hq] at HQ h2 HWB ⊢
  obtain ⟨o, p2⟩ := q
  clear hq
  dsimp only at HQ h2 HWB ⊢
  have ho : 0 ≤ o ∧ o ≤ 4 := by have h := HWB.out; have e : opWL.tail.length = 4 := rfl; rw [e] at h; omega
  have hfy : Fr (XR9 c.R) y1 w2 := (Fr.below (below_alloc _ _)).trans hf2
  have HF2 : Hid (Fr (XR9 c.R) w w2) := HF1'.out.trans hfy
  have HB2 : Hid (w2.heap[w.heap.size]? = some (.cells #[.int .i64 0, .int .i64 0, .int .i64 0] 76)) := (hfy.block _ (by omega) (by show ¬ _ = _; omega)).trans HB0'.out
  have hb2 : w2.heap[w.heap.size + 1]? = some (.cells #[.int .i64 x, .int .i64 0, .int .i64 0] 76) := (hfy.block _ hlt1 (by show ¬ _ = _; omega)).trans HB1.out
  have HS2 : Hid (RSt c p2 w2) := h2
  have z2 := frz9 hb2 1
  have c2 : w2.cell? ⟨w.heap.size + 1, 1, none⟩ = some (.int .i64 0) := blk9 hb2 1 _ rfl
  have HC2 : Hid ((w2.setCell ⟨w.heap.size + 1, 1, none⟩ (.int .i64 (1 + o))).heap[w.heap.size + 1]? = some (.cells #[.int .i64 x, .int .i64 (1 + o), .int .i64 0] 76)) := by
    show _ = _; rw [heap_setCell_same w2 _ 1 _ _ _ hb2]; rfl
  have HS2' : Hid (RSt c p2 (w2.setCell ⟨w.heap.size + 1, 1, none⟩ (.int .i64 (1 + o)))) := HS2.out.set (by show w.heap.size + 1 ≠ _; omega) (by have := HNW.out.1; show _ ≤ w.heap.size + 1; omega) (by have := HNW.out.2; show _ ≤ w.heap.size + 1; omega) _
  have HF2' : Hid (Fr (XR9 c.R) w (w2.setCell ⟨w.heap.size + 1, 1, none⟩ (.int .i64 (1 + o)))) := HF2.out.setNew (by show _ ≤ w.heap.size + 1; omega) _
  have HB2' : Hid ((w2.setCell ⟨w.heap.size + 1, 1, none⟩ (.int .i64 (1 + o))).heap[w.heap.size]? = some (.cells #[.int .i64 0, .int .i64 0, .int .i64 0] 76)) := (Below.heap_setCell _ _ _ _ (fun e => by have e2 : w.heap.size = w.heap.size + 1 := e; omega)).trans HB2.out
  obtain ⟨y2, hy2⟩ : ∃ y2, w2.setCell ⟨w.heap.size + 1, 1, none⟩ (.int .i64 (1 + o)) = y2 := ⟨_, rfl⟩
  have HY2 : Hid (w2.setCell ⟨w.heap.size + 1, 1, none⟩ (.int .i64 (1 + o)) = y2) := hy2
  rw [hy2] at HC2 HS2' HF2' HB2'
  clear hf2 hfy hb2 h2 hy2 HB2 HF2 HS2 HB1 HS1' HF1' HB0' hlt1 hsz HY1
  go_wp2_with fail
  rw [HY2.out]
  clear z2 c2
  have hlt2 : w.heap.size + 1 < y2.heap.size := (Array.getElem?_eq_some_iff.1 HC2.out).1
  refine (rk_any c p2 _ HS2'.out).mono ?_
  rintro e w3 ⟨rfl, h3, hf3⟩
  obtain ⟨q, hq⟩ : ∃ q, kR c.en c.T p2 = q := ⟨_, rfl⟩
  rw [hq] at HQ h3 ⊢
  obtain ⟨n, p3⟩ := q
  clear hq
  dsimp only at HQ h3 ⊢
  have hb3 : w3.heap[w.heap.size + 1]? = some (.cells #[.int .i64 x, .int .i64 (1 + o), .int .i64 0] 76) := (hf3.block _ hlt2 (by show ¬ _ = _; omega)).trans HC2.out
  have hb4 : w3.heap[w.heap.size]? = some (.cells #[.int .i64 0, .int .i64 0, .int .i64 0] 76) := (hf3.block _ (by omega) (by show ¬ _ = _; omega)).trans HB2'.out
  have HF3 : Hid (Fr (XR9 c.R) w w3) := HF2'.out.trans hf3
  have HS3 : Hid (RSt c p3 w3) := h3
  have d0 : w3.cell? ⟨w.heap.size + 1, 0, none⟩ = some (.int .i64 x) := blk9 hb3 0 _ rfl
  have d1 : w3.cell? ⟨w.heap.size + 1, 1, none⟩ = some (.int .i64 (1 + o)) := blk9 hb3 1 _ rfl
  have d2 : w3.cell? ⟨w.heap.size + 1, 2, none⟩ = some (.int .i64 0) := blk9 hb3 2 _ rfl
  have y2z := frz9 hb3 2
  have r0 : w3.cell? ⟨w.heap.size, 0, none⟩ = some (.int .i64 0) := blk9 hb4 0 _ rfl
  have r1 : w3.cell? ⟨w.heap.size, 1, none⟩ = some (.int .i64 0) := blk9 hb4 1 _ rfl
  have r2 : w3.cell? ⟨w.heap.size, 2, none⟩ = some (.int .i64 0) := blk9 hb4 2 _ rfl
  have x0 := frz9 hb4 0
  have x1 := frz9 hb4 1
  have x2 := frz9 hb4 2
  have HLIT : Hid (Q = (⟨x, 1 + o, n⟩, p3)) := HQ.out
  clear h3 hf3 HC2 HS2' HF2' HB2' hlt2 HY2 HQ hb3 hb4
  go_wp2
  refine bodyPost_ret (by simp [results, Tryz.results52, go_sem, *]; try rfl) rfl ?_
  refine ⟨by rw [HLIT.out]; first | rfl | (unfold litA; rfl), ?_, ?_⟩
  · rw [HLIT.out]
    have hn := HNW.out
    repeat refine RSt.set ?_ (by simp only; omega) (by simp only; omega) (by simp only; omega) _
    exact HS3.out
  · repeat refine Fr.setNew ?_ (by simp only; omega) _
    exact HF3.out
end Go.Proofs.YtdjbejlbmaiocabGreatDoor
/-
  PLAIN: the reference's reader and the program's come to the same, part by part.
-/
namespace Go.Proofs.YtdjbejlbmaiocabGreatDoor

/-- How a step of the reference's stands to one of the program's: what is read is so related; the same tokens are left; the same is wrong, at the same place. -/
def Agree {α β : Type} (en : Int) (T : List Tok) (R : α → β → Prop) (q : α × RP) (r : PR β) : Prop :=
  match r with
  | .ok y l => q.2.er = 0 ∧ T.drop q.2.k = l ∧ q.2.k ≤ T.length ∧ R q.1 y
  | .bad pl e => q.2.er = e ∧ e ≠ 0 ∧ (headT en (T.drop q.2.k)).place = pl ∧ q.2.k ≤ T.length
structure Same {α β : Type} (en : Int) (T : List Tok) (R : α → β → Prop) (f : RP → α × RP) (P : List Tok → PR β) : Prop where
  still : Still f
  same : ∀ p, p.er = 0 → p.k ≤ T.length → Agree en T R (f p) (P (T.drop p.k))
theorem Same.bind {α β γ δ : Type} {en : Int} {T : List Tok} {R : α → β → Prop} {S : γ → δ → Prop} {f : RP → α × RP} {P : List Tok → PR β} {g : α → RP → γ × RP} {Q : β → List Tok → PR δ}
    (hf : Same en T R f P) (hs : ∀ x, Still (g x)) (hg : ∀ x y, R x y → ∀ p, p.er = 0 → p.k ≤ T.length → Agree en T S (g x p) (Q y (T.drop p.k))) : Same en T S (fun p => g (f p).1 (f p).2) (fun l => (P l).bind Q) := by
  refine ⟨fun p hp => ?_, fun p hp hk => ?_⟩
  · show (g (f p).1 (f p).2).2 = p
    rw [hf.still p hp]; exact hs _ p hp
  · have h := hf.same p hp hk
    show Agree en T S (g (f p).1 (f p).2) ((P (T.drop p.k)).bind Q)
    cases hq : P (T.drop p.k) with
    | ok y l =>
      rw [hq] at h
      obtain ⟨h1, h2, h3, h4⟩ := h
      have h5 := hg _ y h4 _ h1 h3
      rw [h2] at h5
      exact h5
    | bad pl e =>
      rw [hq] at h
      obtain ⟨h1, h2, h3, h4⟩ := h
      have h5 : (g (f p).1 (f p).2).2 = (f p).2 := hs _ _ (by rw [h1]; exact h2)
      show _ ∧ _ ∧ _ ∧ _
      rw [h5]
      exact ⟨h1, h2, h3, h4⟩
theorem Same.bindS {α β γ δ : Type} {en : Int} {T : List Tok} {R : α → β → Prop} {S : γ → δ → Prop} {f : RP → α × RP} {P : List Tok → PR β} {g : α → RP → γ × RP} {Q : β → List Tok → PR δ}
    (hf : Same en T R f P) (hs : ∀ x, Still (g x)) (hg : ∀ x y, R x y → Same en T S (g x) (Q y)) : Same en T S (fun p => g (f p).1 (f p).2) (fun l => (P l).bind Q) :=
  hf.bind hs fun x y hr => (hg x y hr).same
theorem Same.pure {α β : Type} {en : Int} {T : List Tok} {R : α → β → Prop} {x : α} {y : β} (h : R x y) : Same en T R (fun p => (x, p)) (fun l => .ok y l) :=
  ⟨fun _ _ => rfl, fun _ hp hk => ⟨hp, rfl, hk, h⟩⟩
/-- What a pass comes to. -/
theorem pass_agree {α β : Type} {en : Int} {T : List Tok} {R : α → β → Prop} (p : RP) (hp : p.er = 0) (hk : p.k ≤ T.length) (fits : Bool) (q : α × RP) (y : Tok → β)
    (h1 : fits = true → q.2 = stepR p ∧ p.k < T.length ∧ R q.1 (y (headT en (T.drop p.k)))) (h2 : fits = false → q.2 = wrongR 1 p) : Agree en T R q ((passP en fits (T.drop p.k)).bind fun t r => .ok (y t) r) := by
  unfold passP
  cases fits
  · rw [if_neg (by simp)]
    have h := h2 rfl
    have e : wrongR 1 p = ⟨p.k, 1⟩ := by unfold wrongR; rw [if_pos hp]
    rw [e] at h
    show _ ∧ _ ∧ _ ∧ _
    rw [h]
    exact ⟨rfl, by omega, rfl, hk⟩
  · rw [if_pos rfl]
    obtain ⟨h3, h4, h5⟩ := h1 rfl
    show _ ∧ _ ∧ _ ∧ _
    rw [h3]
    refine ⟨hp, ?_, by show p.k + 1 ≤ _; omega, h5⟩
    show T.drop (p.k + 1) = _
    rw [List.tail_drop]
theorem tx_head (en : Int) (T : List Tok) (p : RP) (hp : p.er = 0) : txR en T p = (headT en (T.drop p.k)).text := by unfold txR; rw [if_pos hp]
theorem head_in (en : Int) (T : List Tok) (k : Nat) (h : (headT en (T.drop k)).text ≠ ByteArray.empty) : k < T.length := by
  apply Classical.byContradiction
  intro hn
  rw [List.drop_eq_nil_of_le (by omega)] at h
  exact h rfl
theorem need_same (en : Int) (T : List Tok) (s : ByteArray) (hs : (ByteArray.empty.toList == s.toList) = false) : Same en T (fun _ _ => True) (fun p => ((), needR en T s p)) (fun l => skipP en s l) := by
  refine ⟨fun p hp => need_still en T s p hp, fun p hp hk => ?_⟩
  have h := pass_agree (en := en) (T := T) (R := fun (_ : Unit) (_ : Tok) => True) p hp hk ((headT en (T.drop p.k)).text.toList == s.toList) ((), needR en T s p) id
    (fun hq => by
      refine ⟨?_, head_in en T p.k (fun he => by rw [he, hs] at hq; cases hq), trivial⟩
      show needR en T s p = _
      unfold needR
      rw [if_pos hp, tx_head en T p hp, if_pos hq])
    (fun hq => by
      show needR en T s p = _
      unfold needR
      rw [if_pos hp, tx_head en T p hp, hq, if_neg (by simp)])
  show Agree en T _ _ (skipP en s (T.drop p.k))
  unfold skipP
  cases hq : passP en ((headT en (T.drop p.k)).text.toList == s.toList) (T.drop p.k) with
  | ok t r => rw [hq] at h; exact h
  | bad x e => rw [hq] at h; exact h
theorem word_idx (en : Int) (T : List Tok) (p : RP) (hp : p.er = 0) : ∀ (ws : List ByteArray) (j : Nat), wordR en T p ws j = if 0 ≤ idxA ws (txR en T p) j then (idxA ws (txR en T p) j, stepR p) else (0, wrongR 1 p)
  | [], j => by unfold wordR idxA; rw [if_neg (by omega)]
  | s :: r, j => by
    unfold wordR idxA
    by_cases h : ((txR en T p).toList == s.toList) = true
    · rw [if_pos ⟨hp, h⟩, h, if_pos rfl, if_pos (by omega)]
    · rw [if_neg (fun hq => h hq.2), if_neg h]
      exact word_idx en T p hp r (j + 1)
theorem idx_shift (n : ByteArray) : ∀ (ws : List ByteArray) (j : Nat), idxA ws n (j + 1) = if 0 ≤ idxA ws n j then idxA ws n j + 1 else -1
  | [], j => by unfold idxA; rfl
  | s :: r, j => by
    unfold idxA
    by_cases h : (n.toList == s.toList) = true
    · rw [if_pos h, if_pos h, if_pos (by omega)]; simp
    · rw [if_neg h, if_neg h]
      exact idx_shift n r (j + 1)
/-- Tokens as they are scanned. -/
def Solid (T : List Tok) : Prop := ∀ t ∈ T, t.kind ≠ 0 ∧ (t.text.toList == ByteArray.empty.toList) = false ∧ (t.kind = 2 ↔ dig0 t.text = true)
theorem head_mem (en : Int) (T : List Tok) (k : Nat) (h : k < T.length) : headT en (T.drop k) ∈ T := by
  rw [List.drop_eq_getElem_cons h]
  exact List.getElem_mem h
theorem head_none (en : Int) (T : List Tok) (k : Nat) (h : ¬ k < T.length) : headT en (T.drop k) = ⟨0, en, ByteArray.empty⟩ := by
  rw [List.drop_eq_nil_of_le (by omega)]; rfl
theorem word_still2 (en : Int) (T : List Tok) (ws : List ByteArray) (f : Int → Int) : Still (fun p => (f (wordR en T p ws 0).1, (wordR en T p ws 0).2)) := fun p hp => word_still en T p hp ws 0
theorem idx_empty (ws : List ByteArray) (h : ∀ s ∈ ws, (ByteArray.empty.toList == s.toList) = false) : ∀ j, idxA ws ByteArray.empty j = -1 := by
  induction ws with
  | nil => intro j; rfl
  | cons s r ih =>
    intro j
    unfold idxA
    rw [if_neg (by rw [h s (List.mem_cons_self ..)]; simp)]
    exact ih (fun t ht => h t (List.mem_cons_of_mem _ ht)) (j + 1)
theorem word_same (en : Int) (T : List Tok) (hT : Solid T) (ws : List ByteArray) (h : ∀ s ∈ ws, (ByteArray.empty.toList == s.toList) = false) : Same en T Eq (fun p => wordR en T p ws 0) (oneOfP en ws) := by
  refine ⟨fun p hp => word_still en T p hp ws 0, fun p hp hk => ?_⟩
  show Agree en T Eq (wordR en T p ws 0) (oneOfP en ws (T.drop p.k))
  unfold oneOfP
  rw [word_idx en T p hp, tx_head en T p hp]
  by_cases hin : p.k < T.length
  · have h1 := hT _ (head_mem en T p.k hin)
    refine pass_agree (y := fun _ => idxA ws (headT en (T.drop p.k)).text 0) p hp hk _ _ (fun hq => ?_) (fun hq => ?_)
    · rw [Bool.and_eq_true, decide_eq_true_eq] at hq
      rw [if_pos hq.1]
      exact ⟨rfl, hin, rfl⟩
    · rw [show ((headT en (T.drop p.k)).kind != 0) = true by simpa using h1.1, Bool.and_true, decide_eq_false_iff_not] at hq
      rw [if_neg hq]
  · rw [head_none en T p.k hin]
    refine pass_agree (y := fun _ => idxA ws ByteArray.empty 0) p hp hk _ _ (fun hq => ?_) (fun hq => ?_)
    · simp at hq
    · rw [idx_empty ws h, if_neg (by omega)]
/-- Counted from one, with an empty word ahead. -/
theorem word1_same (en : Int) (T : List Tok) (hT : Solid T) (ws : List ByteArray) (h : ∀ s ∈ ws, (ByteArray.empty.toList == s.toList) = false) : Same en T Eq (fun p => (1 + (wordR en T p ws 0).1, (wordR en T p ws 0).2)) (oneOfP en (ByteArray.empty :: ws)) := by
  refine ⟨word_still2 en T ws (fun x => 1 + x), fun p hp hk => ?_⟩
  show Agree en T Eq (1 + (wordR en T p ws 0).1, (wordR en T p ws 0).2) (oneOfP en (ByteArray.empty :: ws) (T.drop p.k))
  unfold oneOfP
  rw [word_idx en T p hp, tx_head en T p hp]
  by_cases hin : p.k < T.length
  · have h1 := hT _ (head_mem en T p.k hin)
    have e : idxA (ByteArray.empty :: ws) (headT en (T.drop p.k)).text 0 = if 0 ≤ idxA ws (headT en (T.drop p.k)).text 0 then idxA ws (headT en (T.drop p.k)).text 0 + 1 else -1 := by
      conv => lhs; unfold idxA
      rw [if_neg (by rw [h1.2.1]; simp)]
      exact idx_shift _ ws 0
    rw [e]
    refine pass_agree (y := fun _ => if 0 ≤ idxA ws (headT en (T.drop p.k)).text 0 then idxA ws (headT en (T.drop p.k)).text 0 + 1 else -1) p hp hk _ _ (fun hq => ?_) (fun hq => ?_)
    · rw [Bool.and_eq_true, decide_eq_true_eq] at hq
      by_cases h0 : 0 ≤ idxA ws (headT en (T.drop p.k)).text 0
      · rw [if_pos h0, if_pos h0]
        exact ⟨rfl, hin, by show 1 + _ = _; omega⟩
      · rw [if_neg h0] at hq; omega
    · rw [show ((headT en (T.drop p.k)).kind != 0) = true by simpa using h1.1, Bool.and_true, decide_eq_false_iff_not] at hq
      by_cases h0 : 0 ≤ idxA ws (headT en (T.drop p.k)).text 0
      · rw [if_pos h0] at hq; omega
      · rw [if_neg h0]
  · rw [head_none en T p.k hin]
    refine pass_agree (y := fun _ => idxA (ByteArray.empty :: ws) ByteArray.empty 0) p hp hk _ _ (fun hq => ?_) (fun hq => ?_)
    · simp at hq
    · rw [idx_empty ws h, if_neg (by omega)]
end Go.Proofs.YtdjbejlbmaiocabGreatDoor
/-
  PLAIN: the reference's reader and the program's: numbers, names, lists, literals.
-/
namespace Go.Proofs.YtdjbejlbmaiocabGreatDoor

theorem dig0_empty : dig0 ByteArray.empty = false := rfl
theorem kEnd_agree (en : Int) (T : List Tok) (hT : Solid T) (ng : Bool) (p : RP) (hp : p.er = 0) (hk : p.k ≤ T.length) :
    Agree en T Eq (kEndR en T ng p) ((passP en (((headT en (T.drop p.k)).kind == 2) && !(ng && ((headT en (T.drop p.k)).text.toList == [48]))) (T.drop p.k)).bind fun t r => .ok ((if ng then -1 else 1) * digV t.text.data.toList) r) := by
  have hd : ((headT en (T.drop p.k)).kind == 2) = dig0 (headT en (T.drop p.k)).text := by
    by_cases hin : p.k < T.length
    · have h1 := (hT _ (head_mem en T p.k hin)).2.2
      cases hq : dig0 (headT en (T.drop p.k)).text
      · have : ¬ (headT en (T.drop p.k)).kind = 2 := fun h => by rw [h1.1 h] at hq; cases hq
        simpa using this
      · simpa using h1.2 hq
    · rw [head_none en T p.k hin]; rfl
  unfold kEndR noNumR
  rw [tx_head en T p hp, hd]
  refine pass_agree (y := fun t => (if ng then -1 else 1) * digV t.text.data.toList) p hp hk _ _ (fun hq => ?_) (fun hq => ?_)
  · rw [Bool.and_eq_true] at hq
    have h2 : (ng && ((headT en (T.drop p.k)).text.toList == [48])) = false := by
      cases hx : (ng && ((headT en (T.drop p.k)).text.toList == [48]))
      · rfl
      · rw [hx] at hq; exact absurd hq.2 (by simp)
    rw [if_neg (by rw [hq.1, h2]; simp)]
    refine ⟨rfl, ?_, rfl⟩
    apply Classical.byContradiction
    intro hn
    rw [head_none en T p.k hn] at hq
    exact absurd hq.1 (by rw [dig0_empty]; simp)
  · rw [if_pos (by
      cases h1 : dig0 (headT en (T.drop p.k)).text
      · rfl
      · rw [h1] at hq
        simpa using hq)]
theorem number_same (en : Int) (T : List Tok) (hT : Solid T) : Same en T Eq (kR en T) (numberP en) := by
  refine ⟨k_still en T, fun p hp hk => ?_⟩
  unfold kR numberP
  rw [tx_head en T p hp]
  by_cases h : ((headT en (T.drop p.k)).text.toList == [45]) = true
  · rw [if_pos h, if_pos h]
    exact ((need_same en T ⟨#[45]⟩ (by decide +kernel)).bind (S := Eq) (g := fun _ p => kEndR en T true p) (fun _ => kEnd_still en T true)
      (Q := fun _ l => (passP en (((headT en l).kind == 2) && (!((headT en l).text.toList == [48]))) l).bind fun t r => .ok (-1 * digV t.text.data.toList) r)
      (fun _ _ _ p hp hk => by have := kEnd_agree en T hT true p hp hk; simpa using this)).same p hp hk
  · rw [if_neg h, if_neg h]
    have := kEnd_agree en T hT false p hp hk
    simpa using this

def Apart (nm : List ByteArray) : Prop := nm.Pairwise fun a b => a.data.toList ≠ b.data.toList
/-- The same, if names differ. -/
def RD {α : Type} (D : Prop) (x y : α) : Prop := D → x = y
theorem Same.weak {α : Type} {en : Int} {T : List Tok} {f : RP → α × RP} {P : List Tok → PR α} (h : Same en T Eq f P) (D : Prop) : Same en T (RD D) f P :=
  ⟨h.still, fun p hp hk => by
    have h1 := h.same p hp hk
    cases hq : P (T.drop p.k) with
    | ok y l => rw [hq] at h1; exact ⟨h1.1, h1.2.1, h1.2.2.1, fun _ => h1.2.2.2⟩
    | bad pl e => rw [hq] at h1; exact h1⟩
theorem beq_data (a b : ByteArray) : (a.toList == b.toList) = true ↔ a.data.toList = b.data.toList := by
  rw [beq_iff_eq, ByteArray.toList_eq, ByteArray.toList_eq]
theorem nameAt_in (s : ByteArray) : ∀ nm : List ByteArray, (nameAt nm s).2 = true → ∃ n ∈ nm, n.data.toList = s.data.toList
  | [], h => by cases h
  | n :: r, h => by
    unfold nameAt at h
    by_cases h1 : (nameAt r s).2 = true
    · obtain ⟨m, hm, he⟩ := nameAt_in s r h1
      exact ⟨m, List.mem_cons_of_mem _ hm, he⟩
    · rw [if_neg h1] at h
      by_cases h2 : n.data.toList = s.data.toList
      · exact ⟨n, List.mem_cons_self .., h2⟩
      · rw [if_neg h2] at h; cases h
theorem vat_found (s : ByteArray) (p : RP) : ∀ (nm : List ByteArray) (i : Nat), ((nameAt nm s).2 = true → ∃ j : Nat, vAtR s p nm i = (((i + j : Nat) : Int), stepR p) ∧ (Apart nm → (nameAt nm s).1 = (j : Int))) ∧ ((nameAt nm s).2 = false → vAtR s p nm i = (0, wrongR 5 p))
  | [], i => ⟨(fun h => by cases h), (fun _ => by unfold vAtR; rfl)⟩
  | n :: r, i => by
    obtain ⟨ih1, ih2⟩ := vat_found s p r (i + 1)
    by_cases h : n.data.toList = s.data.toList
    · have hv : vAtR s p (n :: r) i = ((i : Int), stepR p) := by unfold vAtR; rw [if_pos ((beq_data n s).2 h)]
      refine ⟨fun _ => ⟨0, by rw [hv]; rfl, fun hA => ?_⟩, fun hf => ?_⟩
      · have hno : (nameAt r s).2 = false := by
          cases hq : (nameAt r s).2
          · rfl
          · obtain ⟨m, hm, he⟩ := nameAt_in s r hq
            exact absurd (h.trans he.symm) ((List.pairwise_cons.1 hA).1 m hm)
        unfold nameAt
        rw [hno, if_neg (by simp), if_pos h]
        rfl
      · unfold nameAt at hf
        cases hq : (nameAt r s).2 <;> simp [hq, h] at hf
    · have hv : vAtR s p (n :: r) i = vAtR s p r (i + 1) := by
        conv => lhs; unfold vAtR
        rw [if_neg (fun hq => h ((beq_data n s).1 hq))]
      have hn : nameAt (n :: r) s = if (nameAt r s).2 then ((nameAt r s).1 + 1, true) else (0, false) := by
        conv => lhs; unfold nameAt
        rw [if_neg h]
      rw [hv, hn]
      cases hq : (nameAt r s).2
      · refine ⟨fun hf => by simp at hf, fun _ => ih2 hq⟩
      · obtain ⟨j, hj1, hj2⟩ := ih1 hq
        refine ⟨fun _ => ⟨j + 1, by rw [hj1]; congr 2; omega, fun hA => ?_⟩, fun hf => by simp at hf⟩
        have := hj2 (List.pairwise_cons.1 hA).2
        simp only [if_true]
        rw [this]; simp
theorem name_eq (s : ByteArray) : nameB s = isNameB s := by
  have h1 : ∀ m, checkM ⟨[⟨s, 0, 0⟩], [], 0, 0⟩ = m → nameB s = (m == 0) := fun m h => by unfold nameB; rw [h]
  cases hq : isNameB s
  · refine (h1 1 ?_).trans rfl
    have h2 : varE [] ⟨s, 0, 0⟩ = 1 := by unfold varE; rw [hq]; rfl
    have h3 : varsE [⟨s, 0, 0⟩] = 1 := by show firstE [varE [] ⟨s, 0, 0⟩] = 1; rw [h2]; rfl
    unfold checkM
    simp [h3]
  · refine (h1 0 ?_).trans rfl
    have h2 : varE [] ⟨s, 0, 0⟩ = 0 := by
      unfold varE
      rw [if_pos hq, if_neg (by simp), if_pos (by simp [inB]), if_neg (by simp)]
    have h3 : varsE [⟨s, 0, 0⟩] = 0 := by show firstE [varE [] ⟨s, 0, 0⟩] = 0; rw [h2]; rfl
    unfold checkM
    simp [h3]
    try rfl
theorem name_same (en : Int) (T : List Tok) (nm : List ByteArray) (hn : ∀ n ∈ nm, ∀ s : ByteArray, n.data.toList = s.data.toList → isNameB s = true) : Same en T (RD (Apart nm)) (vR en T nm) (nameP en nm) := by
  refine ⟨v_still en T nm, fun p hp hk => ?_⟩
  unfold vR nameP
  rw [tx_head en T p hp, name_eq]
  obtain ⟨f1, f2⟩ := vat_found (headT en (T.drop p.k)).text p nm 0
  cases hq : (nameAt nm (headT en (T.drop p.k)).text).2
  · rw [f2 hq]
    cases hb : isNameB (headT en (T.drop p.k)).text
    · simp only [Bool.false_eq_true, if_false]
      have e : wrongR 1 p = ⟨p.k, 1⟩ := by unfold wrongR; rw [if_pos hp]
      rw [e]
      exact ⟨rfl, by omega, rfl, hk⟩
    · simp only [Bool.false_eq_true, if_false, if_true]
      have e : wrongR 5 p = ⟨p.k, 5⟩ := by unfold wrongR; rw [if_pos hp]
      rw [e]
      exact ⟨rfl, by omega, rfl, hk⟩
  · obtain ⟨n, hm, he⟩ := nameAt_in _ nm hq
    have hb := hn n hm _ he
    rw [if_pos rfl, hb, if_pos rfl]
    obtain ⟨j, hj1, hj2⟩ := f1 hq
    rw [hj1]
    refine pass_agree (y := fun _ => (nameAt nm (headT en (T.drop p.k)).text).1) p hp hk true _ (fun _ => ⟨rfl, head_in en T p.k (fun h0 => by rw [h0, namex_empty] at hb; cases hb), fun hA => ?_⟩) (fun h => by cases h)
    rw [hj2 hA]
    simp
end Go.Proofs.YtdjbejlbmaiocabGreatDoor
