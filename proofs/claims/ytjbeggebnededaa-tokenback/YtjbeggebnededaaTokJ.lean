/-
  WALK: token.Join at a row of tokens: it answers what 'joinOf' says.
-/
import Derived.Test.YtjbeggebnededaaTokI
namespace Go.Proofs.Ytjbeggebnededaa
open Go.RowKit

theorem take_snoc_tok (ts : List Tok) (m : Nat) (t : Tok) (h : ts[m]? = some t) : ts.take (m + 1) = ts.take m ++ [t] := by
  rw [List.take_add_one, h]; rfl

theorem joinN_take (ts : List Tok) (m : Nat) : joinN (ts.take m) ≤ joinN ts := by
  have h : ∀ l r : List Tok, joinN l ≤ joinN (l ++ r) := by
    intro l r
    cases l with
    | nil => simp [joinN]
    | cons a q => simp only [joinN, List.cons_append, List.map_append, List.sum_append]; omega
  have := h (ts.take m) (ts.drop m)
  rwa [List.take_append_drop] at this

theorem fresh_bld (w : World) : Lib.IsBuilderF 66 5 w.heap.size w.heap.size (Lib.byteCells (joinL [])) (w.alloc (.cells #[.pointer none, .slice none 0 0] 66)) := by
  rcases Lib.fresh_isBuilder 66 5 w with h | h
  · exact Or.inl (Lib.BuilderAtF.of h)
  · exact Or.inr (Lib.BuilderAtF.of h)
theorem at_alloc {B b : Nat} {p : Value} {bs : List Value} {w : World} (h : Lib.BuilderAtF 66 5 B b p bs w) (o : Obj) : Lib.BuilderAtF 66 5 B b p bs (w.alloc o) := by
  obtain ⟨hB, v, hbk, hown, hne⟩ := h
  exact ⟨hB, v, by rw [Below.heap_alloc _ _ _ (Array.getElem?_eq_some_iff.1 hbk).1]; exact hbk, hown.alloc _, hne⟩
theorem hbld_alloc {B b : Nat} {bs : List Value} {w : World} (h : Lib.IsBuilderF 66 5 B b bs w) (o : Obj) : Lib.IsBuilderF 66 5 B b bs (w.alloc o) := by
  rcases h with h | h
  · exact Or.inl (at_alloc h o)
  · exact Or.inr (at_alloc h o)
theorem bld_lt {B b : Nat} {bs : List Value} {w : World} (h : Lib.IsBuilderF 66 5 B b bs w) : b < w.heap.size := by
  rcases h with h | h
  · obtain ⟨_, v, hbk, _⟩ := h; exact (Array.getElem?_eq_some_iff.1 hbk).1
  · obtain ⟨_, v, hbk, _⟩ := h; exact (Array.getElem?_eq_some_iff.1 hbk).1
theorem kept_struct {b : Nat} {w w' : World} (t : Tok) (hk : Lib.OthersKept 5 (some b) (w.alloc (.cells #[.int .i64 t.kind, .int .i64 t.place, .string t.text] 34)) w') (hb : b < w.heap.size) :
    w'.cell? ⟨w.heap.size, 2, none⟩ = some (.string t.text) := by
  have h := hk w.heap.size _ (heap_alloc_new w _) (by intro e; cases e; omega) (by intro c fz e; cases e)
  rw [Lib.cell_of_heap h]; rfl

set_option maxHeartbeats 1600000 in
set_option maxRecDepth 100000 in
theorem join_any (ts : List Tok) (b off c : Nat) (w : World) (hmax : ts.length ≤ 17592186044416) (htx : ∀ t ∈ ts, t.text.size ≤ maxLen) (hb : b < w.heap.size) (hrow : tokRow w b off ts) :
    Calls Try.prog 13 #[.slice (some ⟨b, off, none⟩) ts.length c] w fun e w' => e = .returned (.tuple #[.string (joinOf ts).1, .int .i64 (joinOf ts).2]) ∧ Below w.heap.size w w' := by
  obtain ⟨R, hR⟩ : ∃ R, joinOf ts = R := ⟨_, rfl⟩
  rw [hR]
  have HR : Hid (joinOf ts = R) := hR
  have HROW : Hid (tokRow w b off ts) := hrow
  have HTX : Hid (∀ t ∈ ts, t.text.size ≤ maxLen) := htx
  clear hR hrow htx
  go_enter Try.func13, Try.ntmps13
  go_wp2_with fail
  go_loopw [4, 12] (fun z i wr => ∃ m : Nat, m ≤ ts.length ∧ i = .int .i64 m ∧ z = .int .i64 (joinN (ts.take m)) ∧ Hid ((ts.take m).all aloneB = true) ∧ Below w.heap.size w wr) (fun _ i _ => ts.length - (intOf i).toNat)
  case atStart => exact ⟨0, by omega, rfl, rfl, rfl, Below.refl _ _⟩
  case round =>
    obtain ⟨m, hm, rfl, rfl, hall, hbw⟩ := hrel
    have hjn := joinN_le _ hall.out
    have hjl : (ts.take m).length = m := by simp; omega
    rw [hjl] at hjn
    by_cases hlt : m < ts.length
    · obtain ⟨t, ht⟩ : ∃ t, ts[m]? = some t := ⟨ts[m], by simp [hlt]⟩
      obtain ⟨c0, c1, c2⟩ := HROW.out m t ht
      have hc0 := (hbw.cell (p := ⟨b, off + m * 3, none⟩) hb).trans c0
      have hc1 := (hbw.cell (p := ⟨b, off + m * 3 + 1, none⟩) hb).trans c1
      have hc2 := (hbw.cell (p := ⟨b, off + m * 3 + 2, none⟩) hb).trans c2
      have HM : Hid (t ∈ ts) := List.mem_of_getElem? ht
      have HT : Hid (ts[m]? = some t) := ht
      have hsz := hbw.size
      clear c0 c1 c2 ht hjl
      go_wp2_with fail
      refine (alone_any t (HTX.out t HM.out) _).mono ?_
      rintro e w1 ⟨rfl, hb1⟩
      have hd2 : w1.cell? ⟨wr.heap.size, 2, none⟩ = some (.string t.text) := (hb1.cell (by simp)).trans (by simp)
      have hs1 : wr.heap.size + 1 ≤ w1.heap.size := by simpa using hb1.size
      have hb3 : Below w.heap.size w w1 := (hbw.alloc (by omega) _).trans (hb1.mono (by simp; omega))
      cases hal : aloneB t
      · have HR2 : Hid (R = (ByteArray.empty, 1)) := by
          rw [← HR.out]; unfold joinOf
          have hno : ts.all aloneB = false := by
            cases h : ts.all aloneB
            · rfl
            · rw [List.all_eq_true.1 h t HM.out] at hal; cases hal
          rw [hno]; rfl
        clear hal
        go_wp2
        go_ret2
        rw [HR2.out]
        exact ⟨rfl, hb3⟩
      · have hts : t.text.size ≤ 12 := (tok_size t.kind t.text (by rw [← alone_iff]; exact hal)).2
        have HALL : Hid ((ts.take (m + 1)).all aloneB = true) := by
          show _ = true
          rw [take_snoc_tok ts m t HT.out, List.all_append, hall.out]; simp [hal]
        have hjs : joinN (ts.take (m + 1)) = joinN (ts.take m) + (if m = 0 then 0 else 1) + t.text.size := by
          rw [take_snoc_tok ts m t HT.out, joinN_snoc]
          have : (ts.take m).length = m := by simp; omega
          rw [this]
        clear hal
        by_cases hm0 : m = 0
        · have hj0 : joinN (ts.take (m + 1)) = joinN (ts.take m) + t.text.size := by rw [hjs, if_pos hm0]; rfl
          have HJ : Hid (joinN (ts.take (m + 1)) = joinN (ts.take m) + t.text.size) := hj0
          have hz : (m : Int) < 1 := by omega
          clear hjs hj0 hm0
          go_wp2
          go_roundw
          case rel => exact ⟨m + 1, by omega, by go_num, by rw [HJ.out]; go_num, HALL, hb3⟩
          case measure => simp [intOf]; omega
        · have hj0 : joinN (ts.take (m + 1)) = joinN (ts.take m) + 1 + t.text.size := by rw [hjs, if_neg hm0]
          have HJ : Hid (joinN (ts.take (m + 1)) = joinN (ts.take m) + 1 + t.text.size) := hj0
          have hz : (0 : Int) < (m : Int) := by omega
          clear hjs hj0 hm0
          go_wp2
          go_roundw
          case rel => exact ⟨m + 1, by omega, by go_num, by rw [HJ.out]; go_num, HALL, hb3⟩
          case measure => simp [intOf]; omega
    · have hmn : m = ts.length := by omega
      subst hmn
      rw [List.take_length] at hjn hall
      have HJJ : Hid (joinN (ts.take ts.length) = joinN ts) := congrArg joinN (List.take_length)
      rw [HJJ.out]
      by_cases hbig : 4000 < joinN ts
      · have HR2 : Hid (R = (ByteArray.empty, 2)) := show R = (ByteArray.empty, 2) by
          rw [← HR.out]; unfold joinOf; rw [hall.out, if_pos rfl, if_pos hbig]
        go_wp2
        go_ret2
        rw [HR2.out]
        exact ⟨rfl, hbw⟩
      · have HR2 : Hid (R = (⟨(joinL ts).toArray⟩, 0)) := show R = (⟨(joinL ts).toArray⟩, 0) by
          rw [← HR.out]; unfold joinOf; rw [hall.out, if_pos rfl, if_neg hbig]
        have hsz := hbw.size
        obtain ⟨wo, rfl⟩ : ∃ wo : World, wo = wr := ⟨_, rfl⟩
        go_wp2
        go_loopw [34] (fun i wr => ∃ m : Nat, m ≤ ts.length ∧ i = .int .i64 m ∧ Lib.IsBuilderF 66 5 wo.heap.size wo.heap.size (Lib.byteCells (joinL (ts.take m))) wr ∧ Below wo.heap.size wo wr) (fun i _ => ts.length - (intOf i).toNat)
        case atStart => exact ⟨0, by omega, rfl, fresh_bld wo, (Below.refl _ _).alloc (Nat.le_refl _) _⟩
        case round =>
          obtain ⟨m, hm, rfl, hbld, hbo⟩ := hrel
          have hso := hbo.size
          by_cases hlt : m < ts.length
          · obtain ⟨t, ht⟩ : ∃ t, ts[m]? = some t := ⟨ts[m], by simp [hlt]⟩
            obtain ⟨c0, c1, c2⟩ := HROW.out m t ht
            have hc0 := (hbo.cell (p := ⟨b, off + m * 3, none⟩) (by simp only; omega)).trans ((hbw.cell (p := ⟨b, off + m * 3, none⟩) hb).trans c0)
            have hc1 := (hbo.cell (p := ⟨b, off + m * 3 + 1, none⟩) (by simp only; omega)).trans ((hbw.cell (p := ⟨b, off + m * 3 + 1, none⟩) hb).trans c1)
            have hc2 := (hbo.cell (p := ⟨b, off + m * 3 + 2, none⟩) (by simp only; omega)).trans ((hbw.cell (p := ⟨b, off + m * 3 + 2, none⟩) hb).trans c2)
            have HT : Hid (ts[m]? = some t) := ht
            have hpre := joinN_take ts (m + 1)
            have hjl : joinL (ts.take (m + 1)) = joinL (ts.take m) ++ (if m = 0 then [] else [32]) ++ t.text.data.toList := by
              rw [take_snoc_tok ts m t ht, joinL_snoc]
              have : (ts.take m).length = m := by simp; omega
              rw [this]
            have HLL : Hid ((joinL (ts.take (m + 1))).length ≤ 4000) := by show _ ≤ _; rw [joinL_len]; omega
            have HJL : Hid (joinL (ts.take (m + 1)) = joinL (ts.take m) ++ (if m = 0 then [] else [32]) ++ t.text.data.toList) := hjl
            clear c0 c1 c2 ht hjl hpre
            obtain ⟨bs, HBS⟩ : ∃ bs, Hid (joinL (ts.take m) = bs) := ⟨joinL (ts.take m), rfl⟩
            rw [HBS.out] at hbld
            unfold Hid at HJL
            rw [HBS.out] at HJL
            have HJ2 : Hid (joinL (ts.take (m + 1)) = bs ++ (if m = 0 then [] else [32]) ++ t.text.data.toList) := HJL
            clear HJL
            by_cases hm0 : m = 0
            · have HJ3 : Hid (joinL (ts.take (m + 1)) = bs ++ t.text.data.toList) := by have := HJ2.out; rw [if_pos hm0, List.append_nil] at this; exact this
              have hz : (m : Int) < 1 := by omega
              have HL2 : Hid (bs.length + t.text.size ≤ 4000) := by
                have := HLL.out; rw [HJ3.out] at this; simp only [List.length_append, len_size] at this; exact this
              clear HJ2 hm0
              go_wp2_with fail
              refine (bld_str wo.heap.size wo.heap.size _ t.text _ (hbld_alloc hbld _) (by rw [Lib.byteCells_length]; have := HL2.out; omega) (by simp; omega)).mono ?_
              rintro e w2 ⟨rfl, h2, hb2, hk2⟩
              have HB2 : Hid (Lib.IsBuilderF 66 5 wo.heap.size wo.heap.size (Lib.byteCells (joinL (ts.take (m + 1)))) w2) := by
                show Lib.IsBuilderF _ _ _ _ _ _
                rw [HJ3.out]
                have e1 : Lib.byteCells (bs ++ t.text.data.toList) = Lib.byteCells bs ++ Lib.strCells t.text := by simp [Lib.byteCells, Lib.strCells]
                rw [e1]; exact Or.inr h2
              have hb4 : Below wo.heap.size wo w2 := (hbo.alloc hso _).trans hb2
              clear h2 hk2 hb2 hbld hbo
              go_wp2
              go_roundw
              case rel => exact ⟨m + 1, by omega, by go_num, HB2.out, hb4⟩
              case measure => simp [intOf]; omega
            · have HJ3 : Hid (joinL (ts.take (m + 1)) = bs ++ [32] ++ t.text.data.toList) := by have := HJ2.out; rw [if_neg hm0] at this; exact this
              have hz : (0 : Int) < (m : Int) := by omega
              have HL2 : Hid (bs.length + 1 + t.text.size ≤ 4000) := by
                have := HLL.out; rw [HJ3.out] at this; simp only [List.length_append, List.length_singleton, len_size] at this; exact this
              clear HJ2 hm0
              go_wp2_with fail
              refine (bld_byte wo.heap.size wo.heap.size _ 32 _ (hbld_alloc hbld _) (by rw [Lib.byteCells_length]; have := HL2.out; omega) (by simp; omega)).mono ?_
              rintro e w1 ⟨rfl, h1, hb1, hk1⟩
              have hd2 : w1.cell? ⟨wr.heap.size, 2, none⟩ = some (.string t.text) := kept_struct t hk1 (by have := bld_lt hbld; omega)
              have hs1 : wr.heap.size + 1 ≤ w1.heap.size := by simpa using hb1.size
              go_wp2_with fail
              refine (bld_str wo.heap.size wo.heap.size _ t.text _ (Or.inr h1) (by simp only [List.length_append, Lib.byteCells_length, List.length_singleton]; have := HL2.out; omega) (by omega)).mono ?_
              rintro e w2 ⟨rfl, h2, hb2, hk2⟩
              have HB2 : Hid (Lib.IsBuilderF 66 5 wo.heap.size wo.heap.size (Lib.byteCells (joinL (ts.take (m + 1)))) w2) := by
                show Lib.IsBuilderF _ _ _ _ _ _
                rw [HJ3.out]
                have e1 : Lib.byteCells (bs ++ [32] ++ t.text.data.toList) = Lib.byteCells bs ++ [.int .u8 32] ++ Lib.strCells t.text := by simp [Lib.byteCells, Lib.strCells]
                rw [e1]; exact Or.inr h2
              have hb4 : Below wo.heap.size wo w2 := ((hbo.alloc hso _).trans hb1).trans hb2
              clear h1 h2 hk1 hk2 hb1 hb2 hbld hbo
              go_wp2
              go_roundw
              case rel => exact ⟨m + 1, by omega, by go_num, HB2.out, hb4⟩
              case measure => simp [intOf]; omega
          · have hmn : m = ts.length := by omega
            subst hmn
            rw [List.take_length] at hbld
            go_wp2_with fail
            refine (bld_string _ _ _ _ hbld hso).mono ?_
            rintro e w1 ⟨rfl, h1, hb1, hk1⟩
            go_wp2
            go_ret2
            rw [HR2.out]
            exact ⟨rfl, hbw.trans ((hbo.trans hb1).mono hsz)⟩
end Go.Proofs.Ytjbeggebnededaa
