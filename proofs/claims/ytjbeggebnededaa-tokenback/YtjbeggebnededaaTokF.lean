/-
  WALK: the reference's ScanOf: it answers what 'scanOf' says.
-/
import Derived.Test.YtjbeggebnededaaTokE
namespace Go.Proofs.Ytjbeggebnededaa
open Go.RowKit

theorem tokAt_some (s : ByteArray) (j n kd : Nat) (hk : kindOf s.data.toList j = kd) (h0 : kd ≠ 0) (hn : endOf s.data.toList j = j + n) : tokAt s j = ⟨kd, j, s.extract j (j + n)⟩ := by
  unfold tokAt; rw [if_neg (by rw [hk]; exact h0), hk, hn]
theorem toksCells_snoc (l : List Tok) (t : Tok) : toksCells (l ++ [t]) = toksCells l ++ tokCells t := by simp [toksCells]
theorem err1_long (t : ByteArray) (h : 12 < t.size) : errOf 1 t = 2 := by unfold errOf; rw [if_pos rfl, if_pos h]
theorem err1_ok (t : ByteArray) (h : ¬ 12 < t.size) : errOf 1 t = 0 := by unfold errOf; rw [if_pos rfl, if_neg h]
theorem err2_long (t : ByteArray) (h : 4 < t.size) : errOf 2 t = 2 := by unfold errOf; rw [if_neg (by decide), if_pos rfl, if_pos h]
theorem err2_nought (t : ByteArray) (h : ¬ 4 < t.size) (h1 : 1 < t.size) (h2 : ((byteAt t.data.toList 0).toNat : Int) = 48) : errOf 2 t = 1 := by
  unfold errOf; rw [if_neg (by decide), if_pos rfl, if_neg h, if_pos ⟨h1, h2⟩]
theorem err2_ok (t : ByteArray) (h : ¬ 4 < t.size) (h1 : 1 < t.size → ((byteAt t.data.toList 0).toNat : Int) ≠ 48) : errOf 2 t = 0 := by
  unfold errOf; rw [if_neg (by decide), if_pos rfl, if_neg h, if_neg (fun h' => h1 h'.1 h'.2)]
theorem err3_ok (t : ByteArray) : errOf 3 t = 0 := rfl
theorem kind_cases (l : List UInt8) (j : Nat) : kindOf l j = 0 ∨ kindOf l j = 1 ∨ kindOf l j = 2 ∨ kindOf l j = 3 := by
  unfold kindOf; repeat' split
  all_goals omega

set_option maxHeartbeats 1600000 in
set_option maxRecDepth 100000 in
theorem rscan_any (s : ByteArray) (hs : s.size ≤ 4000) (w : World) :
    Calls Try.prog 10 #[.string s] w fun e w' => ∃ v, e = .returned (.tuple #[v, .int .i64 (scanOf s).2.1, .int .i64 (scanOf s).2.2]) ∧
      w'.ownsRow w.heap.size 34 3 v (scanOf s).1.length (toksCells (scanOf s).1) ∧ Below w.heap.size w w' := by
  have HS : Hid (s.size ≤ maxLen) := by show s.size ≤ maxLen; unfold maxLen; omega
  obtain ⟨i0, hi, hz0, hz1, hz2⟩ := info_parts Try.infoTok
  obtain ⟨R, hR⟩ : ∃ R, R = scanOf s := ⟨_, rfl⟩
  rw [← hR]
  have HR : Hid (R = scanF (s.size + 1) s 0 []) := by rw [hR]; unfold scanOf; rw [if_neg (by omega)]; rfl
  clear hR
  go_enter Try.func10, Try.ntmps10
  go_wp2_with fail
  go_loopw [5, 6, 7] (fun v b i wr => ∃ (k f j : Nat) (note : Bool) (acc : List Tok), b = .bool note ∧ i = .int .i64 j ∧ Hid (skipTo note s.data.toList j = skipTo false s.data.toList k) ∧ Hid (R = scanF f s k acc) ∧ s.size < k + f ∧ k ≤ s.size ∧ j ≤ s.size ∧ k ≤ j ∧ acc.length ≤ k ∧
      wr.ownsRow w.heap.size 34 3 v acc.length (toksCells acc) ∧ Below w.heap.size w wr) (fun _ _ i _ => s.size - (intOf i).toNat)
  case atStart => exact ⟨0, s.size + 1, 0, false, [], rfl, rfl, rfl, HR, by omega, by omega, by omega, by omega, Nat.le_refl _, World.ownsRow_nil _ _ _ _, Below.refl _ _⟩
  case round =>
    obtain ⟨k, f, j, note, acc, rfl, rfl, hj, hR, hf, hk, hjs, hkj, hacc, hown, hbw⟩ := hrel
    by_cases hlt : j < s.size
    · have hl : j < s.data.toList.length := by simpa using hlt
      have hget := list_get s j hlt hl
      have HG : Hid (s.data.toList[j] = s[j]) := hget
      clear hget
      cases note
      · cases h4 : ((s[j].toNat : Int) == 37)
        · cases hb : isB s[j]
          · have h1 : ((s[j].toNat : Int) == 32) = false := by unfold isB at hb; simp only [Bool.or_eq_false_iff] at hb; exact hb.1
            have h2 : ((s[j].toNat : Int) == 9) = false := by unfold isB at hb; simp only [Bool.or_eq_false_iff] at hb; exact hb.2.1
            have h3 : ((s[j].toNat : Int) == 10) = false := by unfold isB at hb; simp only [Bool.or_eq_false_iff] at hb; exact hb.2.2
            have HJ : Hid (skipTo false s.data.toList k = j) := by rw [← hj.out]; exact skipTo_stop _ j hl (by rw [HG.out]; exact hb) (by rw [HG.out]; exact h4)
            clear hb hj
            obtain ⟨f, rfl⟩ : ∃ f', f = f' + 1 := ⟨f - 1, by omega⟩
            have hle := endOf_le _ j hl
            have hle1 : endOf s.data.toList j ≤ s.size := by simpa using hle.2
            obtain ⟨n, hn⟩ : ∃ n, endOf s.data.toList j = j + n := ⟨endOf s.data.toList j - j, by omega⟩
            have HN : Hid (((endOf s.data.toList j - j : Nat) : Int) = (n : Int)) := by show ((endOf s.data.toList j - j : Nat) : Int) = (n : Int); rw [hn, Nat.add_sub_cancel_left]
            have HN' : Hid (endOf s.data.toList j = j + n) := hn
            have hnj : j + n ≤ s.size := by omega
            have hpos : kindOf s.data.toList j ≠ 0 → 0 < n := fun h => by have := endOf_gt _ j hl h; omega
            clear hle hn hle1
            rcases kind_cases s.data.toList j with hkd | hkd | hkd | hkd
            · have HR2 : Hid (R = ([], j, 1)) := by
                rw [hR.out]
                have ht : tokAt s j = ⟨0, 0, ByteArray.empty⟩ := by unfold tokAt; rw [if_pos hkd]
                have he : errOf (tokAt s j).kind (tokAt s j).text = 1 := by rw [ht]; rfl
                rw [← he]; exact scanF_err f s k j acc HJ.out hlt (by rw [he]; decide)
              have HK : Hid (((kindOf s.data.toList j : Nat) : Int) = 0) := by rw [hkd]; rfl
              clear hkd hpos
              go_wp2_with fail
              refine (at_any s j hlt HS.out _).mono ?_
              rintro e wr ⟨rfl, rfl⟩
              rw [HK.out, HN.out]
              go_wp2
              go_ret3
              rw [HR2.out]
              exact ⟨_, rfl, World.ownsRow_nil _ _ _ _, hbw⟩
            · have hn0 : 0 < n := hpos (by omega)
              clear hpos
              by_cases h12 : 12 < n
              · have HR2 : Hid (R = ([], j, 2)) := by
                  rw [hR.out]
                  have ht := tokAt_some s j n 1 hkd (by omega) HN'.out
                  have he : errOf (tokAt s j).kind (tokAt s j).text = 2 := by rw [ht]; exact err1_long _ (by rw [size_extract _ _ _ hnj]; omega)
                  rw [← he]; exact scanF_err f s k j acc HJ.out hlt (by rw [he]; decide)
                have HK : Hid (((kindOf s.data.toList j : Nat) : Int) = 1) := by rw [hkd]; rfl
                clear hkd
                go_wp2_with fail
                refine (at_any s j hlt HS.out _).mono ?_
                rintro e wr ⟨rfl, rfl⟩
                rw [HK.out, HN.out]
                go_wp2
                go_ret3
                rw [HR2.out]
                exact ⟨_, rfl, World.ownsRow_nil _ _ _ _, hbw⟩
              · have ht := tokAt_some s j n 1 hkd (by omega) HN'.out
                have he : errOf (tokAt s j).kind (tokAt s j).text = 0 := by rw [ht]; exact err1_ok _ (by rw [size_extract _ _ _ hnj]; omega)
                have HR2 : Hid (R = scanF f s (j + n) (acc ++ [⟨1, j, s.extract j (j + n)⟩])) := by
                  rw [hR.out, scanF_next f s k j acc HJ.out hlt he, HN'.out, ht]; rfl
                have HK : Hid (((kindOf s.data.toList j : Nat) : Int) = 1) := by rw [hkd]; rfl
                clear hkd ht he
                go_wp2_with fail
                refine (at_any s j hlt HS.out _).mono ?_
                rintro e wr ⟨rfl, rfl⟩
                rw [HK.out, HN.out]
                go_wp2_with (at_builtin; refine wpList_append_own _ rfl _ _ 22 rfl w.heap.size 34 i0 (.agg #[.int .i64 0, .int .i64 0, .string ByteArray.empty]) 3 32 Try.underlying22 hi hz0 hz1 hz2 rfl (by decide) _ _ _ rfl (hown.alloc _) ⟨wr.heap.size, 0, none⟩ 1 1 (tokCells ⟨1, j, s.extract j (j + n)⟩) rfl rfl ?c1 ?c2 ?c3 ?c4 ?c5 ?_)
                case c1 => first | exact laid_cells wr ⟨1, j, s.extract j (j + n)⟩ | exact fun _ _ h => h
                case c2 => exact tok_oneCell _
                case c3 => unfold maxLen; omega
                case c4 => omega
                case c5 => have := hbw.size; simp; omega
                intro v3 w3 hown3 hgrow _
                have hb3 : Below w.heap.size w w3 := (hbw.alloc (by have := hbw.size; omega) _).grown hgrow (by have := hbw.size; simp; omega) (fun b h => (hown.lt _ h).1)
                have hown4 : w3.ownsRow w.heap.size 34 3 v3 (acc ++ ([⟨1, j, s.extract j (j + n)⟩] : List Tok)).length (toksCells (acc ++ [⟨1, j, s.extract j (j + n)⟩])) := by
                  rw [toksCells_snoc, List.length_append]; exact hown3
                clear hown3 hgrow hown hbw
                go_wp2
                go_roundw
                case rel => exact ⟨j + n, f, j + n, false, _, rfl, by go_num, rfl, HR2, by omega, hnj, hnj, Nat.le_refl _, by simp; omega, hown4, hb3⟩
                case measure => simp [intOf]; omega
            · have hn0 : 0 < n := hpos (by omega)
              clear hpos
              by_cases h4n : 4 < n
              · have HR2 : Hid (R = ([], j, 2)) := by
                  rw [hR.out]
                  have ht := tokAt_some s j n 2 hkd (by omega) HN'.out
                  have he : errOf (tokAt s j).kind (tokAt s j).text = 2 := by rw [ht]; exact err2_long _ (by rw [size_extract _ _ _ hnj]; omega)
                  rw [← he]; exact scanF_err f s k j acc HJ.out hlt (by rw [he]; decide)
                have HK : Hid (((kindOf s.data.toList j : Nat) : Int) = 2) := by rw [hkd]; rfl
                clear hkd
                go_wp2_with fail
                refine (at_any s j hlt HS.out _).mono ?_
                rintro e wr ⟨rfl, rfl⟩
                rw [HK.out, HN.out]
                go_wp2
                go_ret3
                rw [HR2.out]
                exact ⟨_, rfl, World.ownsRow_nil _ _ _ _, hbw⟩
              · by_cases h1n : 1 < n
                · have hx0 : 0 < (s.extract j (j + n)).size := by rw [size_extract _ _ _ hnj]; omega
                  have hbx : byteAt (s.extract j (j + n)).data.toList 0 = (s.extract j (j + n))[0] := by rw [byteAt_get _ _ (show 0 < (s.extract j (j + n)).data.toList.length by rw [Array.length_toList]; exact hx0)]; exact list_get _ 0 hx0 _
                  cases h0x : (((s.extract j (j + n))[0].toNat : Int) == 48)
                  · have ht := tokAt_some s j n 2 hkd (by omega) HN'.out
                    have he : errOf (tokAt s j).kind (tokAt s j).text = 0 := by rw [ht]; exact err2_ok _ (by rw [size_extract _ _ _ hnj]; omega) (fun h => by rw [hbx]; simpa using h0x)
                    have HR2 : Hid (R = scanF f s (j + n) (acc ++ [⟨2, j, s.extract j (j + n)⟩])) := by
                      rw [hR.out, scanF_next f s k j acc HJ.out hlt he, HN'.out, ht]; rfl
                    have HK : Hid (((kindOf s.data.toList j : Nat) : Int) = 2) := by rw [hkd]; rfl
                    clear hkd ht he hbx
                    go_wp2_with fail
                    refine (at_any s j hlt HS.out _).mono ?_
                    rintro e wr ⟨rfl, rfl⟩
                    rw [HK.out, HN.out]
                    go_wp2_with (at_builtin; refine wpList_append_own _ rfl _ _ 22 rfl w.heap.size 34 i0 (.agg #[.int .i64 0, .int .i64 0, .string ByteArray.empty]) 3 32 Try.underlying22 hi hz0 hz1 hz2 rfl (by decide) _ _ _ rfl (hown.alloc _) ⟨wr.heap.size, 0, none⟩ 1 1 (tokCells ⟨2, j, s.extract j (j + n)⟩) rfl rfl ?c1 ?c2 ?c3 ?c4 ?c5 ?_)
                    case c1 => first | exact laid_cells wr ⟨2, j, s.extract j (j + n)⟩ | exact fun _ _ h => h
                    case c2 => exact tok_oneCell _
                    case c3 => unfold maxLen; omega
                    case c4 => omega
                    case c5 => have := hbw.size; simp; omega
                    intro v3 w3 hown3 hgrow _
                    have hb3 : Below w.heap.size w w3 := (hbw.alloc (by have := hbw.size; omega) _).grown hgrow (by have := hbw.size; simp; omega) (fun b h => (hown.lt _ h).1)
                    have hown4 : w3.ownsRow w.heap.size 34 3 v3 (acc ++ ([⟨2, j, s.extract j (j + n)⟩] : List Tok)).length (toksCells (acc ++ [⟨2, j, s.extract j (j + n)⟩])) := by
                      rw [toksCells_snoc, List.length_append]; exact hown3
                    clear hown3 hgrow hown hbw
                    go_wp2
                    go_roundw
                    case rel => exact ⟨j + n, f, j + n, false, _, rfl, by go_num, rfl, HR2, by omega, hnj, hnj, Nat.le_refl _, by simp; omega, hown4, hb3⟩
                    case measure => simp [intOf]; omega
                  · have HR2 : Hid (R = ([], j, 1)) := by
                      rw [hR.out]
                      have ht := tokAt_some s j n 2 hkd (by omega) HN'.out
                      have he : errOf (tokAt s j).kind (tokAt s j).text = 1 := by rw [ht]; exact err2_nought _ (by rw [size_extract _ _ _ hnj]; omega) (by rw [size_extract _ _ _ hnj]; omega) (by rw [hbx]; simpa using h0x)
                      rw [← he]; exact scanF_err f s k j acc HJ.out hlt (by rw [he]; decide)
                    have HK : Hid (((kindOf s.data.toList j : Nat) : Int) = 2) := by rw [hkd]; rfl
                    clear hkd hbx
                    go_wp2_with fail
                    refine (at_any s j hlt HS.out _).mono ?_
                    rintro e wr ⟨rfl, rfl⟩
                    rw [HK.out, HN.out]
                    go_wp2
                    go_ret3
                    rw [HR2.out]
                    exact ⟨_, rfl, World.ownsRow_nil _ _ _ _, hbw⟩
                · have ht := tokAt_some s j n 2 hkd (by omega) HN'.out
                  have he : errOf (tokAt s j).kind (tokAt s j).text = 0 := by rw [ht]; exact err2_ok _ (by rw [size_extract _ _ _ hnj]; omega) (fun h => by rw [size_extract _ _ _ hnj] at h; omega)
                  have HR2 : Hid (R = scanF f s (j + n) (acc ++ [⟨2, j, s.extract j (j + n)⟩])) := by
                    rw [hR.out, scanF_next f s k j acc HJ.out hlt he, HN'.out, ht]; rfl
                  have HK : Hid (((kindOf s.data.toList j : Nat) : Int) = 2) := by rw [hkd]; rfl
                  clear hkd ht he
                  go_wp2_with fail
                  refine (at_any s j hlt HS.out _).mono ?_
                  rintro e wr ⟨rfl, rfl⟩
                  rw [HK.out, HN.out]
                  go_wp2_with (at_builtin; refine wpList_append_own _ rfl _ _ 22 rfl w.heap.size 34 i0 (.agg #[.int .i64 0, .int .i64 0, .string ByteArray.empty]) 3 32 Try.underlying22 hi hz0 hz1 hz2 rfl (by decide) _ _ _ rfl (hown.alloc _) ⟨wr.heap.size, 0, none⟩ 1 1 (tokCells ⟨2, j, s.extract j (j + n)⟩) rfl rfl ?c1 ?c2 ?c3 ?c4 ?c5 ?_)
                  case c1 => first | exact laid_cells wr ⟨2, j, s.extract j (j + n)⟩ | exact fun _ _ h => h
                  case c2 => exact tok_oneCell _
                  case c3 => unfold maxLen; omega
                  case c4 => omega
                  case c5 => have := hbw.size; simp; omega
                  intro v3 w3 hown3 hgrow _
                  have hb3 : Below w.heap.size w w3 := (hbw.alloc (by have := hbw.size; omega) _).grown hgrow (by have := hbw.size; simp; omega) (fun b h => (hown.lt _ h).1)
                  have hown4 : w3.ownsRow w.heap.size 34 3 v3 (acc ++ ([⟨2, j, s.extract j (j + n)⟩] : List Tok)).length (toksCells (acc ++ [⟨2, j, s.extract j (j + n)⟩])) := by
                    rw [toksCells_snoc, List.length_append]; exact hown3
                  clear hown3 hgrow hown hbw
                  go_wp2
                  go_roundw
                  case rel => exact ⟨j + n, f, j + n, false, _, rfl, by go_num, rfl, HR2, by omega, hnj, hnj, Nat.le_refl _, by simp; omega, hown4, hb3⟩
                  case measure => simp [intOf]; omega
            · have hn0 : 0 < n := hpos (by omega)
              clear hpos
              have ht := tokAt_some s j n 3 hkd (by omega) HN'.out
              have he : errOf (tokAt s j).kind (tokAt s j).text = 0 := by rw [ht]; exact err3_ok _
              have HR2 : Hid (R = scanF f s (j + n) (acc ++ [⟨3, j, s.extract j (j + n)⟩])) := by
                rw [hR.out, scanF_next f s k j acc HJ.out hlt he, HN'.out, ht]; rfl
              have HK : Hid (((kindOf s.data.toList j : Nat) : Int) = 3) := by rw [hkd]; rfl
              clear hkd ht he
              go_wp2_with fail
              refine (at_any s j hlt HS.out _).mono ?_
              rintro e wr ⟨rfl, rfl⟩
              rw [HK.out, HN.out]
              go_wp2_with (at_builtin; refine wpList_append_own _ rfl _ _ 22 rfl w.heap.size 34 i0 (.agg #[.int .i64 0, .int .i64 0, .string ByteArray.empty]) 3 32 Try.underlying22 hi hz0 hz1 hz2 rfl (by decide) _ _ _ rfl (hown.alloc _) ⟨wr.heap.size, 0, none⟩ 1 1 (tokCells ⟨3, j, s.extract j (j + n)⟩) rfl rfl ?c1 ?c2 ?c3 ?c4 ?c5 ?_)
              case c1 => first | exact laid_cells wr ⟨3, j, s.extract j (j + n)⟩ | exact fun _ _ h => h
              case c2 => exact tok_oneCell _
              case c3 => unfold maxLen; omega
              case c4 => omega
              case c5 => have := hbw.size; simp; omega
              intro v3 w3 hown3 hgrow _
              have hb3 : Below w.heap.size w w3 := (hbw.alloc (by have := hbw.size; omega) _).grown hgrow (by have := hbw.size; simp; omega) (fun b h => (hown.lt _ h).1)
              have hown4 : w3.ownsRow w.heap.size 34 3 v3 (acc ++ ([⟨3, j, s.extract j (j + n)⟩] : List Tok)).length (toksCells (acc ++ [⟨3, j, s.extract j (j + n)⟩])) := by
                rw [toksCells_snoc, List.length_append]; exact hown3
              clear hown3 hgrow hown hbw
              go_wp2
              go_roundw
              case rel => exact ⟨j + n, f, j + n, false, _, rfl, by go_num, rfl, HR2, by omega, hnj, hnj, Nat.le_refl _, by simp; omega, hown4, hb3⟩
              case measure => simp [intOf]; omega
          · have HE : Hid (skipTo false s.data.toList (j + 1) = skipTo false s.data.toList k) := by rw [← hj.out]; exact (skipTo_blank _ j hl (by rw [HG.out]; exact hb)).symm
            simp only [isB, Bool.or_eq_true] at hb
            rcases hb with hb | hb | hb
            all_goals
              go_wp2
            all_goals
              go_roundw
              case rel => exact ⟨k, f, j + 1, false, acc, rfl, by go_num, HE, hR, hf, hk, by omega, by omega, hacc, hown, hbw⟩
              case measure => simp [intOf]; omega
        · have HE : Hid (skipTo (notNl s[j]) s.data.toList (j + 1) = skipTo false s.data.toList k) := by rw [← hj.out, ← HG.out]; exact (skipTo_note _ _ j hl (by rw [HG.out, h4]; rfl)).symm
          go_wp2
          go_roundw
          case rel => exact ⟨k, f, j + 1, notNl s[j], acc, rfl, by go_num, HE, hR, hf, hk, by omega, by omega, hacc, hown, hbw⟩
          case measure => simp [intOf]; omega
      · have HE : Hid (skipTo (notNl s[j]) s.data.toList (j + 1) = skipTo false s.data.toList k) := by rw [← hj.out, ← HG.out]; exact (skipTo_note _ _ j hl rfl).symm
        go_wp2
        go_roundw
        case rel => exact ⟨k, f, j + 1, notNl s[j], acc, rfl, by go_num, HE, hR, hf, hk, by omega, by omega, hacc, hown, hbw⟩
        case measure => simp [intOf]; omega
    · have HR2 : Hid (R = (acc, 0, 0)) := by rw [hR.out]; exact scanF_end f s k acc (by rw [← hj.out, skipTo_end _ _ _ (by simpa using hlt)]; exact hlt)
      go_wp2
      go_ret3
      rw [HR2.out]
      exact ⟨_, rfl, hown, hbw⟩
end Go.Proofs.Ytjbeggebnededaa
