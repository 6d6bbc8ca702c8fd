/-
  WALKS: package text: the printer: number, what is written on, line.
-/
import Derived.Test.YtggkbhafbhhhhabGreatDoorTxtV
import Derived.Test.YtggkbhafbhhhhabGreatDoorTxtLib
import Derived.Lib.AppendIntMem
namespace Go.Proofs.YtggkbhafbhhhhabGreatDoor
open Go.RowKit

/-- The table of strconv's, which lies below a block. -/
def TabN (N : Nat) (w : World) : Prop := Lib.TabIs Tryz.prog w "internal/strconv.uint64pow10" .u64 Lib.pow10Tab ∧ ∀ g, Tryz.prog.globalNamed "internal/strconv.uint64pow10" = some g → g < N
theorem TabN.fr {X : Nat → Prop} {N : Nat} {w w' : World} (h : TabN N w) (hf : Fr X w w') (hX : ∀ k, X k → N ≤ k) : TabN N w' := by
  refine ⟨?_, h.2⟩
  have h1 := h.1
  unfold Lib.TabIs World.var? at h1 ⊢
  cases hg : Tryz.prog.globalNamed "internal/strconv.uint64pow10" with
  | none => rw [hg] at h1; exact h1
  | some g =>
    rw [hg] at h1
    have hlt : g < w.heap.size := by
      rcases Nat.lt_or_ge g w.heap.size with h' | h'
      · exact h'
      · simp [Array.getElem?_eq_none h'] at h1
    have hb := hf.block g hlt (fun hx => by have := hX g hx; have := h.2 g hg; omega)
    simp only [Option.bind_some] at h1 ⊢
    rw [hb]; exact h1
theorem TabN.below {N : Nat} {w w' : World} (h : TabN N w) (hb : Below w.heap.size w w') : TabN N w' := h.fr (X := fun _ => False) (Fr.below hb) (fun _ hk => hk.elim)
def numB (n : Int) : ByteArray := ⟨(Lib.itoa n).toArray⟩
def okI (n : Int) : Prop := -9223372036854775808 ≤ n ∧ n ≤ 9223372036854775807
set_option maxHeartbeats 400000 in
set_option maxRecDepth 100000 in
theorem pnumber_any (N : Nat) (n : Int) (hn : okI n) (w : World) (ht : TabN N w) :
    Calls Tryz.prog 57 #[.int .i64 n] w fun e w' => e = .returned (.string (numB n)) ∧ Below w.heap.size w w' := by
  have HT := ht.1
  obtain ⟨h0, h1⟩ := hn
  go_enter Tryz.func57, Tryz.ntmps57
  go_wp2_with fail
  refine (Tryz.strconv_Itoa n h0 h1 w HT).mono ?_
  rintro e w1 ⟨rfl, k, os, hw⟩
  have hb : Below w.heap.size w w1 := by rw [hw]; exact Lib.below_grow w.heap.size w (Nat.le_refl _) k os
  clear hw
  go_wp2
  go_ret
  exact ⟨rfl, hb⟩

set_option maxHeartbeats 1000000 in
set_option maxRecDepth 100000 in
theorem pr_check_used (b : Nat) (w : World) (h0 : w.cell? ⟨b, 0, none⟩ = some (.pointer (some ⟨b, 0, none⟩))) :
    Calls Tryz.prog 110 #[.pointer (some ⟨b, 0, none⟩)] w fun e w' => e = .returned (.tuple #[]) ∧ w' = w := by
  obtain ⟨j, hj, _⟩ := Option.map_eq_some_iff.1 Tryz.Builder_Extra_169.sizeBuilder
  go_enter Tryz.func110, Tryz.ntmps110
  go_wp2
  rw [Lib.run_neq_ptr_same w _ Tryz.underlying61 hj]
  go_wp2
  go_end0
  exact ⟨rfl, rfl⟩
theorem Tryz.liesPrinter : liesAt Tryz.prog Tryz.prog.depth 66 (3 / Tryz.prog.cellsOf 66) 0 64 1 = true := by kernel_rfl
set_option maxHeartbeats 1000000 in
set_option maxRecDepth 100000 in
theorem pr_check_fresh (b : Nat) (w : World) (h0 : w.cell? ⟨b, 0, none⟩ = some (.pointer none)) (hsh : w.shape? b = some (66, 3)) (hfz : w.frozen? ⟨b, 0, none⟩ = false) :
    Calls Tryz.prog 110 #[.pointer (some ⟨b, 0, none⟩)] w fun e w' => e = .returned (.tuple #[]) ∧ w' = w.setCell ⟨b, 0, none⟩ (.pointer (some ⟨b, 0, none⟩)) := by
  obtain ⟨j, hj, hjs⟩ := Option.map_eq_some_iff.1 Tryz.Builder_Extra_169.sizeBuilder
  go_enter Tryz.func110, Tryz.ntmps110
  go_wp2
  rw [Lib.run_to_unsafe w ⟨b, 0, none⟩ Tryz.underlying61 Tryz.underlying141 hj (by rw [hjs]; decide) hsh (Nat.zero_lt_succ 2)]
  simp only [Result.andThen]
  rw [Oper.upon_value]
  go_wp2
  rw [run_callFunc_extern Tryz.func121 (by kernel_rfl) (by kernel_rfl) (by kernel_rfl) (e := Extern.AbiNoEscape.same) (by kernel_rfl)]
  rw [Lib.run_noEscape]
  simp only [Result.andThen]
  rw [Oper.upon_value]
  go_wp2
  rw [Lib.run_from_unsafe w ⟨b, 0, none⟩ Tryz.underlying141 Tryz.underlying61 hj hsh Tryz.liesPrinter]
  simp only [Result.andThen]
  rw [Oper.upon_value]
  go_wp2
  go_end0
  exact ⟨rfl, rfl⟩
/-- A printer in memory: what it has written, and its variables. -/
structure PrS (N B b : Nat) (vsl : Value) (l : List UInt8) (w : World) : Prop where
  nb : N ≤ b
  bB : b < B
  Bw : B ≤ w.heap.size
  tab : TabN N w
  blk : ∃ p buf, (p = .pointer none ∨ p = .pointer (some ⟨b, 0, none⟩)) ∧ w.heap[b]? = some (.cells #[p, buf, vsl] 66) ∧ w.ownsRow B 5 1 buf l.length (Lib.byteCells l)
abbrev XBB (b B : Nat) : Nat → Prop := fun k => k = b ∨ B ≤ k
theorem PrS.below {N B b : Nat} {vsl : Value} {l : List UInt8} {w w' : World} (h : PrS N B b vsl l w) (hb : Below w.heap.size w w') : PrS N B b vsl l w' := by
  obtain ⟨h1, h2, h3, h4, p, buf, hp, hk, ho⟩ := h
  exact ⟨h1, h2, Nat.le_trans h3 hb.size, h4.below hb, p, buf, hp, (hb.block b (by omega)).trans hk, own_below ho hb⟩
theorem strCells_bytes (s : ByteArray) : Lib.strCells s = Lib.byteCells s.data.toList := rfl
theorem byteCells_app (a b : List UInt8) : Lib.byteCells (a ++ b) = Lib.byteCells a ++ Lib.byteCells b := by unfold Lib.byteCells; rw [List.map_append]
set_option maxHeartbeats 2000000 in
set_option maxRecDepth 100000 in
theorem pwrite_any (N B b : Nat) (vsl : Value) (l : List UInt8) (s : ByteArray) (w : World) (h : PrS N B b vsl l w) (hlen : l.length + s.size ≤ 140737488355328) :
    Calls Tryz.prog 86 #[.pointer (some ⟨b, 0, none⟩), .string s] w fun e w' => e = .returned (.tuple #[.int .i64 s.size, .nilIface]) ∧ PrS N B b vsl (l ++ s.data.toList) w' ∧ Fr (XBB b B) w w' := by
  obtain ⟨i0, hi, hz0, hz1, hz2⟩ := info_parts Tryz.Builder_Extra_169.infoByte
  have HCK : Hid (Calls Tryz.prog 110 #[.pointer (some ⟨b, 0, none⟩)] w fun e w' => e = .returned (.tuple #[]) ∧ (∃ buf, w'.heap[b]? = some (.cells #[.pointer (some ⟨b, 0, none⟩), buf, vsl] 66) ∧ w'.ownsRow B 5 1 buf l.length (Lib.byteCells l)) ∧ Fr (XBB b B) w w') := by
    obtain ⟨h1, h2, h3, h4, p, buf, hp, hk, ho⟩ := h
    rcases hp with rfl | rfl
    · refine (pr_check_fresh b w (blk9 hk 0 _ rfl) (by simp [World.shape?, hk]) (frz9 hk 0)).mono ?_
      rintro e w' ⟨rfl, rfl⟩
      refine ⟨rfl, ⟨buf, ?_, own_set ho hk (by decide) 0 _⟩, (Fr.refl _ _).setX (p := ⟨b, 0, none⟩) (Or.inl rfl) _⟩
      rw [heap_setCell_same w b 0 _ _ _ hk]; rfl
    · refine (pr_check_used b w (blk9 hk 0 _ rfl)).mono ?_
      rintro e w' ⟨rfl, rfl⟩
      exact ⟨rfl, ⟨buf, hk, ho⟩, Fr.refl _ _⟩
  have HP : Hid (PrS N B b vsl l w) := h
  clear h
  go_enter Tryz.func86, Tryz.ntmps86
  go_wp2_with fail
  refine HCK.out.mono ?_
  rintro e w1 ⟨rfl, ⟨v, hbk, hown⟩, hf1⟩
  have c1 : w1.cell? ⟨b, 1, none⟩ = some v := blk9 hbk 1 _ rfl
  have HB1 : Hid (B ≤ w1.heap.size) := Nat.le_trans HP.out.Bw hf1.size
  obtain ⟨av, cv, hv⟩ := own_form hown
  subst hv
  go_wp2_with (at_builtin; refine Lib.wpList_append_own_string _ rfl _ _ 62 9 rfl B 5 i0 Tryz.underlying62 Tryz.underlying9 hi hz0 hz1 hz2 _ _ _ rfl hown s rfl ?c3 ?c4 ?c5 ?_)
  case c3 => unfold maxLen; omega
  case c4 => omega
  case c5 => exact HB1.out
  intro v' w2 hown' hgrow _
  have hlt : b < w1.heap.size := (Array.getElem?_eq_some_iff.1 hbk).1
  have hne : ∀ k, (Value.slice av l.length cv).ownBlock = some k → B ≤ k := fun k hk => (hown.lt k hk).1
  have hbB := HP.out.bB
  have hb2 : w2.heap[b]? = some (.cells #[.pointer (some ⟨b, 0, none⟩), .slice av l.length cv, vsl] 66) := by
    rw [hgrow.block b hlt (fun e => by have := hne b e.symm; omega)]
    exact hbk
  have d1 : w2.cell? ⟨b, 1, none⟩ = some (.slice av l.length cv) := blk9 hb2 1 _ rfl
  have f1 : w2.frozen? ⟨b, 1, none⟩ = false := frz9 hb2 1
  obtain ⟨ao, cap, hv'⟩ := own_form hown'
  subst hv'
  have HE : Hid (PrS N B b vsl (l ++ s.data.toList) (w2.setCell ⟨b, 1, none⟩ (.slice ao (l.length + s.size) cap)) ∧ Fr (XBB b B) w (w2.setCell ⟨b, 1, none⟩ (.slice ao (l.length + s.size) cap))) := by
    have hfr2 : Fr (XBB b B) w (w2.setCell ⟨b, 1, none⟩ (.slice ao (l.length + s.size) cap)) := (hf1.grown hgrow (fun k hk => Or.inl (Or.inr (hne k hk)))).setX (p := ⟨b, 1, none⟩) (Or.inl rfl) _
    have hN : ∀ k, XBB b B k → N ≤ k := fun k hk => by have := HP.out.nb; rcases hk with rfl | hk <;> omega
    refine ⟨⟨HP.out.nb, HP.out.bB, Nat.le_trans HP.out.Bw hfr2.size, HP.out.tab.fr hfr2 hN, .pointer (some ⟨b, 0, none⟩), .slice ao (l.length + s.size) cap, Or.inr rfl, ?_, ?_⟩, hfr2⟩
    · exact (heap_setCell_same w2 b 1 _ _ _ hb2).trans rfl
    · rw [byteCells_app, List.length_append, len_size]
      exact own_set hown' hb2 (by decide) 1 _
  clear hown hown' hgrow hne hf1 hbk hb2
  go_wp2
  go_ret2
  exact ⟨rfl, HE.out.1, HE.out.2⟩

/-- Texts with something between. -/
def joinB (xs : List ByteArray) (sep : List UInt8) : List UInt8 := Lib.join (xs.map (·.data.toList)) sep
set_option maxHeartbeats 400000 in
set_option maxRecDepth 100000 in
theorem pjoin_any (xs : List ByteArray) (v : Value) (sep : ByteArray) (w : World) (hv : SArg w v xs) (hlen : (joinB xs sep.data.toList).length ≤ 140737488355328) (hx : xs.length ≤ 100000) :
    Calls Tryz.prog 87 #[v, .string sep] w fun e w' => e = .returned (.string ⟨(joinB xs sep.data.toList).toArray⟩) ∧ Below w.heap.size w w' := by
  obtain ⟨a, c, rfl, hm, hc⟩ := hv
  cases xs with
  | nil =>
    refine (Tryz.strings_Join_none a c sep w).mono ?_
    rintro e w' ⟨rfl, rfl⟩
    exact ⟨rfl, Below.refl _ _⟩
  | cons x r =>
    obtain ⟨bk, off, rfl, hlt, _⟩ := hc 0 x rfl
    refine Tryz.strings_Join bk off c (x :: r) sep w (fun j y hy => ?_) hlt (by omega) hm.1 hlen
    obtain ⟨bk', off', he, _, h2⟩ := hc j y hy
    cases he
    exact h2
def lineL (xs : List ByteArray) : List UInt8 := joinB xs [32] ++ [59, 10]
set_option maxHeartbeats 800000 in
set_option maxRecDepth 100000 in
theorem pline_any (N B b : Nat) (vsl : Value) (l : List UInt8) (xs : List ByteArray) (v : Value) (w : World) (h : PrS N B b vsl l w) (hv : SArg w v xs) (hx : xs.length ≤ 1000) (hj : (joinB xs [32]).length ≤ 1000000) (hl : l.length ≤ 100000000) :
    Calls Tryz.prog 56 #[.pointer (some ⟨b, 0, none⟩), v] w fun e w' => e = .returned (.tuple #[]) ∧ PrS N B b vsl (l ++ lineL xs) w' ∧ Fr (XBB b B) w w' := by
  have HP : Hid (PrS N B b vsl l w) := h
  have HV : Hid (SArg w v xs) := hv
  have HLS : Hid (l ++ (joinB xs [32]) ++ [59, 10] = l ++ lineL xs) := by show _ = _; unfold lineL; rw [List.append_assoc]
  obtain ⟨av, cv, rfl, _, _⟩ := hv
  have hjc := pjoin_any xs _ ⟨#[32]⟩ w.drew (HV.out.below (Below.refl _ _).drew) (by show (joinB xs [32]).length ≤ _; omega) (by omega)
  obtain ⟨J, hJ⟩ : ∃ J, joinB xs [32] = J := ⟨_, rfl⟩
  have hJ2 : joinB xs (⟨#[32]⟩ : ByteArray).data.toList = J := hJ
  rw [hJ2] at hjc
  rw [hJ] at hj HLS
  clear h hJ hJ2
  go_enter Tryz.func56, Tryz.ntmps56
  go_wp2_with fail
  go_region_held3 (fun _ => True) (trivial)
    (first
      | (go_at_call 87; refine hjc.mono ?_; rintro e w1 ⟨rfl, hb1⟩; have HP1 := (HP.out.below (Below.refl _ _).drew).below hb1)
      | (go_at_call 86; refine (pwrite_any N B b vsl l _ _ HP1 (by show l.length + J.toArray.size ≤ _; simp; omega)).mono ?_; rintro e w2 ⟨rfl, hp2, hf2⟩))
  have HP2 : Hid (PrS N B b vsl (l ++ J) w2) := hp2
  have HF2 : Hid (Fr (XBB b B) w w2) := ((Fr.below (Below.refl _ _).drew).trans (Fr.below hb1)).trans hf2
  clear hjc HP1 hp2 hf2 hb1
  go_wp2_with fail
  refine (pwrite_any N B b vsl (l ++ J) _ _ HP2.out (by show (l ++ J).length + 2 ≤ _; simp; omega)).mono ?_
  rintro e w3 ⟨rfl, hp3, hf3⟩
  have HP3 : Hid (PrS N B b vsl (l ++ lineL xs) w3) := by rw [← HLS.out]; exact hp3
  have HF3 : Hid (Fr (XBB b B) w w3) := HF2.out.trans hf3
  clear hp3 hf3
  go_wp2
  go_end0
  exact ⟨rfl, HP3.out, HF3.out⟩
end Go.Proofs.YtggkbhafbhhhhabGreatDoor
