/-
  WALK: token.Scan: it answers what 'scanOf' says; its tokens lie in a row of its own.
-/
import Derived.Test.YtggkbhafbhhhhabGreatDoorTokB
namespace Go.Proofs.YtggkbhafbhhhhabGreatDoor
open Go.RowKit

theorem Tryz.infoTok : (Tryz.prog.info? 79).map (fun i => (i.zero, i.size, i.bytes)) = some (some (.agg #[.int .i64 0, .int .i64 0, .string ByteArray.empty]), 3, 32) := by kernel_rfl

def tokCells (t : Tok) : List Value := [.int .i64 t.kind, .int .i64 t.place, .string t.text]
def toksCells (l : List Tok) : List Value := l.flatMap tokCells
theorem own_below {w w' : World} {base : Nat} {e : TypeId} {size : Nat} {v : Value} {n : Nat} {xs : List Value} (h : w.ownsRow base e size v n xs) (hb : Below w.heap.size w w') : w'.ownsRow base e size v n xs := by
  refine ⟨h.1, ?_⟩
  rcases h.2 with hn | ⟨g, cap, cur, hv, hg, hh, r⟩
  · exact .inl hn
  · exact .inr ⟨g, cap, cur, hv, hg, by rw [hb.block g (Array.getElem?_eq_some_iff.1 hh).1]; exact hh, r⟩
theorem laid_cells (w : World) (t : Tok) : ∀ (j : Nat) (u : Value), (tokCells t)[j]? = some u →
    (w.alloc (.cells #[.int .i64 t.kind, .int .i64 t.place, .string t.text] 79)).cell? ((⟨w.heap.size, 0, none⟩ : Addr).add j) = some u := by
  intro j u hj
  match j, hj with
  | 0, hj => simp [tokCells] at hj; subst hj; simp [Addr.add]
  | 1, hj => simp [tokCells] at hj; subst hj; simp [Addr.add]
  | 2, hj => simp [tokCells] at hj; subst hj; simp [Addr.add]
theorem tok_oneCell (t : Tok) : ∀ (u : Value), u ∈ tokCells t → u.oneCell' = true := by
  intro u hu
  simp only [tokCells, List.mem_cons, List.not_mem_nil, or_false] at hu
  rcases hu with rfl | rfl | rfl <;> rfl
theorem tokAt_size (s : ByteArray) (j : Nat) : (tokAt s j).text.size ≤ s.size := by
  unfold tokAt
  split
  · simp
  · show (s.extract _ _).size ≤ _
    rw [ByteArray.size_extract]; omega
theorem toksCells_len (l : List Tok) : (toksCells l).length = l.length * 3 := by
  induction l with
  | nil => rfl
  | cons a r ih => simp only [toksCells, List.flatMap_cons, List.length_append] at *; rw [ih]; simp [tokCells]; omega

set_option maxHeartbeats 1000000 in
set_option maxRecDepth 100000 in
theorem scan_any (s : ByteArray) (hs : s.size ≤ 4000) (w : World) :
    Calls Tryz.prog 13 #[.string s] w fun e w' => ∃ v, e = .returned (.tuple #[v, .int .i64 (scanOf s).2.1, .int .i64 (scanOf s).2.2]) ∧
      w'.ownsRow w.heap.size 79 3 v (scanOf s).1.length (toksCells (scanOf s).1) ∧ Below w.heap.size w w' := by
  have HS : Hid (s.size ≤ maxLen) := by show s.size ≤ maxLen; unfold maxLen; omega
  obtain ⟨i0, hi, hz0, hz1, hz2⟩ := info_parts Tryz.infoTok
  obtain ⟨R, hR⟩ : ∃ R, R = scanOf s := ⟨_, rfl⟩
  rw [← hR]
  have HR : Hid (R = scanF (s.size + 1) s 0 []) := by rw [hR]; unfold scanOf; rw [if_neg (by omega)]; rfl
  clear hR
  have h0 := skipTo_le false s.data.toList 0 (Nat.zero_le _)
  go_enter Tryz.func13, Tryz.ntmps13
  go_wp2_with fail
  refine (skip_any s 0 (Nat.zero_le _) HS.out _).mono ?_
  rintro e w ⟨rfl, rfl⟩
  go_wp2_with fail
  go_loopw [5, 6] (fun v i wr => ∃ (k f j : Nat) (acc : List Tok), i = .int .i64 j ∧ Hid (skipTo false s.data.toList k = j) ∧ Hid (R = scanF f s k acc) ∧ s.size < k + f ∧ k ≤ s.size ∧ j ≤ s.size ∧ k ≤ j ∧ acc.length ≤ k ∧
      wr.ownsRow w.heap.size 79 3 v acc.length (toksCells acc) ∧ Below w.heap.size w wr) (fun _ i _ => s.size - (intOf i).toNat)
  case atStart => exact ⟨0, s.size + 1, _, [], rfl, rfl, HR, by omega, by omega, by simpa using h0.2, h0.1, Nat.le_refl _, World.ownsRow_nil _ _ _ _, Below.refl _ _⟩
  case round =>
    obtain ⟨k, f, j, acc, rfl, hj, hR, hf, hk, hjs, hkj, hacc, hown, hbw⟩ := hrel
    by_cases hlt : j < s.size
    · have hl : j < s.data.toList.length := by simpa using hlt
      obtain ⟨f, rfl⟩ : ∃ f', f = f' + 1 := ⟨f - 1, by omega⟩
      obtain ⟨t, ht⟩ : ∃ t, t = tokAt s j := ⟨_, rfl⟩
      have HT : Hid (t = tokAt s j) := ht
      have htx : t.text.size ≤ s.size := by rw [ht]; exact tokAt_size s j
      have HTS : Hid (t.text.size ≤ maxLen) := Nat.le_trans htx HS.out
      have hsz := hbw.size
      clear ht
      by_cases he : errOf t.kind t.text = 0
      · have HR2 : Hid (R = scanF f s (endOf s.data.toList j) (acc ++ [t])) := by rw [hR.out, HT.out]; exact scanF_next f s k j acc hj.out hlt (by rw [← HT.out]; exact he)
        have HER : Hid (errOf t.kind t.text = 0) := he
        have hkd : kindOf s.data.toList j ≠ 0 := kind_of_ok s j (by rw [← HT.out]; exact he)
        have hen : j < endOf s.data.toList j := endOf_gt _ j hl hkd
        have hen2 : endOf s.data.toList j ≤ s.size := by simpa using (endOf_le _ j hl).2
        have HTE : Hid (t.text.size = endOf s.data.toList j - j) := by
          rw [HT.out]; unfold tokAt; rw [if_neg hkd]; exact size_extract _ _ _ hen2
        clear he hkd
        go_wp2_with fail
        refine (next_any s j hlt HS.out _).mono ?_
        rintro e w1 ⟨rfl, hb1⟩
        rw [← HT.out]; unfold tokV
        have hs1 := hb1.size
        go_wp2_with fail
        refine (check_any _ _ _ HTS.out _).mono ?_
        rintro e w2 ⟨rfl, hb2⟩
        rw [HER.out]
        have hs2 : w1.heap.size + 1 ≤ w2.heap.size := by simpa using hb2.size
        have hc0 : w2.cell? ⟨w1.heap.size, 0, none⟩ = some (.int .i64 t.kind) := (hb2.cell (by simp)).trans (by simp)
        have hc1 : w2.cell? ⟨w1.heap.size, 1, none⟩ = some (.int .i64 t.place) := (hb2.cell (by simp)).trans (by simp)
        have hc2 : w2.cell? ⟨w1.heap.size, 2, none⟩ = some (.string t.text) := (hb2.cell (by simp)).trans (by simp)
        have hown2 : w2.ownsRow w.heap.size 79 3 u5 acc.length (toksCells acc) := own_below ((own_below hown hb1).alloc _) hb2
        go_wp2_with (at_builtin; refine wpList_append_own _ rfl _ _ 38 rfl w.heap.size 79 i0 (.agg #[.int .i64 0, .int .i64 0, .string ByteArray.empty]) 3 32 Tryz.underlying38 hi hz0 hz1 hz2 rfl (by decide) _ _ _ rfl (hown2.alloc _) ⟨w2.heap.size, 0, none⟩ 1 1 (tokCells t) rfl rfl ?c1 ?c2 ?c3 ?c4 ?c5 ?_)
        case c1 => exact laid_cells w2 t
        case c2 => exact tok_oneCell t
        case c3 => unfold maxLen; omega
        case c4 => omega
        case c5 => simp; omega
        intro v3 w3 hown3 hgrow _
        have hc3 : w3.cell? ⟨w1.heap.size, 2, none⟩ = some (.string t.text) := hgrow.cell ((World.cell?_alloc_past _ _ _ (by omega)).trans hc2) (by intro h; have hq := (hown.lt _ h.symm).2; simp only at hq; omega)
        have hb3 : Below w.heap.size w w3 := ((((hbw.trans (hb1.mono hsz)).alloc (by omega) _).trans (hb2.mono (by simp; omega))).alloc (by omega) _).grown hgrow (by simp; omega) (fun b h => (hown.lt _ h).1)
        have hown4 : w3.ownsRow w.heap.size 79 3 v3 (acc ++ [t]).length (toksCells (acc ++ [t])) := by
          have e1 : toksCells (acc ++ [t]) = toksCells acc ++ tokCells t := by simp [toksCells]
          rw [e1, List.length_append]; exact hown3
        clear hown3 hgrow hown2 hc0 hc1 hc2 hb2 hb1 hown hbw hs1 hs2 hsz
        have hjt : (j : Int) + (t.text.size : Int) = ((endOf s.data.toList j : Nat) : Int) := by rw [HTE.out]; omega
        have HJT : Hid ((j : Int) + (t.text.size : Int) = ((endOf s.data.toList j : Nat) : Int)) := hjt
        clear hjt
        go_wp2_with fail
        rw [HJT.out]
        refine (skip_any s (endOf s.data.toList j) hen2 HS.out _).mono ?_
        rintro e w3 ⟨rfl, rfl⟩
        have h5 := skipTo_le false s.data.toList (endOf s.data.toList j) (by simpa using hen2)
        have h51 := h5.1
        have h52 : skipTo false s.data.toList (endOf s.data.toList j) ≤ s.size := by simpa using h5.2
        clear h5
        go_wp2
        go_roundw
        case rel => exact ⟨endOf s.data.toList j, f, _, acc ++ [t], rfl, rfl, HR2, by omega, hen2, h52, h51, by simp; omega, hown4, hb3⟩
        case measure => simp [intOf]; omega
      · have HR2 : Hid (R = ([], j, errOf t.kind t.text)) := by rw [hR.out, HT.out]; exact scanF_err f s k j acc hj.out hlt (by rw [← HT.out]; exact he)
        have he' : (errOf t.kind t.text != 0) = true := by simpa using he
        clear he
        obtain ⟨er, HER⟩ : ∃ er, Hid (errOf t.kind t.text = er) := ⟨_, rfl⟩
        rw [HER.out] at HR2 he'
        go_wp2_with fail
        refine (next_any s j hlt HS.out _).mono ?_
        rintro e w1 ⟨rfl, hb1⟩
        rw [← HT.out]; unfold tokV
        have hs1 := hb1.size
        go_wp2_with fail
        refine (check_any _ _ _ HTS.out _).mono ?_
        rintro e w2 ⟨rfl, hb2⟩
        rw [HER.out]
        go_wp2
        go_ret3
        rw [HR2.out]
        exact ⟨_, rfl, World.ownsRow_nil _ _ _ _, ((hbw.trans (hb1.mono hsz)).alloc (by omega) _).trans (hb2.mono (by simp; omega))⟩
    · have HR2 : Hid (R = (acc, 0, 0)) := by rw [hR.out]; exact scanF_end f s k acc (by rw [hj.out]; exact hlt)
      go_wp2
      go_ret3
      rw [HR2.out]
      exact ⟨_, rfl, hown, hbw⟩
end Go.Proofs.YtggkbhafbhhhhabGreatDoor
