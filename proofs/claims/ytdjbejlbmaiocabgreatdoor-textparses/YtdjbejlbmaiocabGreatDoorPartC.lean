/-
  PART 3 of what the proof leans on (TxtC, TxtLib, TxtD, TxtE, TxtF).
-/
import Derived.Test.YtdjbejlbmaiocabGreatDoorPartB
import Derived.Shelf.Strings.Builder1
import Derived.Shelf.Strings.Builder2
import Derived.Shelf.Strings.OnBuilder
import Derived.Shelf.Strings.BuilderF
import Derived.Shelf.Strconv.Atoi
import Derived.Shelf.Strconv.Itoa0
import Derived.Shelf.Strconv.Itoa1
import Derived.Shelf.LaysM
import Derived.Shelf.Strconv.Itoa2
import Derived.Shelf.Strconv.Itoa3
import Derived.Test.YtdjbejlbmaiocabGreatDoorProg
import Derived.Lib.AtoiErrMem
import Derived.Maps.OwnSet
import Derived.Maps.Views
import Derived.StringKeys
import Derived.Deep.RegionHeld3
import Derived.Laws.OwnMore
/-
  WALKS: package text: the reader: isName, newName, oneOf; the words.
-/
namespace Go.Proofs.YtdjbejlbmaiocabGreatDoor
open Go.RowKit

theorem one_var_arg (w : World) (s : ByteArray) (hs : s.size ≤ maxLen) : MArg (w.alloc (.cells #[.string s, .int .i64 0, .int .i64 0] 47)) (.slice (some ⟨w.heap.size, 0, none⟩) 1 1) (.slice none 0 0) ⟨[⟨s, 0, 0⟩], [], 0, 0⟩ := by
  refine ⟨⟨_, 1, rfl, ⟨Nat.le_refl _, by unfold maxLen; omega⟩, fun i t ht => ?_⟩, ⟨none, 0, rfl, ⟨Nat.le_refl _, Nat.zero_le _⟩, fun i t ht => by simp at ht⟩⟩
  match i, ht with
  | 0, ht =>
    cases ht
    exact ⟨hs, _, 0, rfl, by simp, World.cell?_alloc_at _ _ _ 0 (by simp), World.cell?_alloc_at _ _ _ 1 (by simp), World.cell?_alloc_at _ _ _ 2 (by simp)⟩

set_option maxHeartbeats 800000 in
set_option maxRecDepth 100000 in
theorem risname_any (s : ByteArray) (hs : s.size ≤ maxLen) (w : World) :
    Calls Tryz.prog 115 #[.string s] w fun e w' => e = .returned (.bool (nameB s)) ∧ Below w.heap.size w w' := by
  obtain ⟨er, her⟩ : ∃ er, checkM ⟨[⟨s, 0, 0⟩], [], 0, 0⟩ = er := ⟨_, rfl⟩
  have HER : Hid (checkM ⟨[⟨s, 0, 0⟩], [], 0, 0⟩ = er) := her
  have HN : Hid (nameB s = (er == 0)) := by show _ = _; unfold nameB; rw [her]
  rw [HN.out]
  have HA : Hid (MArg (w.alloc (.cells #[.string s, .int .i64 0, .int .i64 0] 47)) (.slice (some ⟨w.heap.size, 0, none⟩) 1 1) (.slice none 0 0) ⟨[⟨s, 0, 0⟩], [], 0, 0⟩) := one_var_arg w s hs
  clear her hs
  go_enter Tryz.func115, Tryz.ntmps115
  go_wp2_with fail
  refine (show Calls Tryz.prog 15 #[.agg #[.slice (some ⟨w.heap.size, 0, none⟩) 1 1, .slice none 0 0, .int .i64 0, .int .i64 0]] _ _ from check_model ⟨[⟨s, 0, 0⟩], [], 0, 0⟩ _ _ _ HA.out).mono ?_
  rintro e w1 ⟨rfl, hb1⟩
  rw [HER.out]
  have hb2 : Below w.heap.size w w1 := (below_alloc _ _).trans (hb1.mono (by simp))
  clear hb1
  go_wp2
  go_ret
  exact ⟨rfl, hb2⟩
theorem name_empty : nameB ByteArray.empty = false := by kernel_rfl
theorem head_size {N R M : Nat} {en : Int} {w : World} {l : List Tok} (h : Rd N R M en w l) : (headT en l).text.size ≤ maxLen := by
  obtain ⟨_, v, _, _, _, _, _, ht, _⟩ := h
  cases l with
  | nil => show ByteArray.empty.size ≤ maxLen; exact Nat.zero_le _
  | cons t r => have := (ht.2 t (List.mem_cons_self ..)).1; show t.text.size ≤ maxLen; unfold maxLen; omega

set_option maxHeartbeats 800000 in
set_option maxRecDepth 100000 in
theorem newname_any (N R M : Nat) (en : Int) (w : World) (l : List Tok) (h : Rd N R M en w l) :
    Calls Tryz.prog 96 #[.pointer (some ⟨R, 0, none⟩)] w (PostR (newNameP en l) (fun s v _ => v = .string s ∧ s.size ≤ maxLen) N R M en (fun k => k = R) w) := by
  have hf2 := tokF2 (headT en l)
  have HB : Hid (Rd N R M en w l) := h
  have hsz := head_size h
  obtain ⟨B, hB⟩ : ∃ B, nameB (headT en l).text = B := ⟨_, rfl⟩
  have HBB : Hid (nameB (headT en l).text = B) := hB
  have HP : Hid (newNameP en l = (passP en B l).bind fun t r => .ok t.text r) := by show _ = _; unfold newNameP; rw [hB]
  have HL : Hid (B = true → l ≠ []) := by
    intro hb hl
    subst hl
    rw [hb] at hB
    have h2 : nameB ByteArray.empty = true := hB
    rw [name_empty] at h2; cases h2
  have HSZ : Hid ((headT en l).text.size ≤ maxLen) := hsz
  rw [HP.out]
  clear hB hsz h
  go_enter Tryz.func96, Tryz.ntmps96
  go_wp2_with fail
  refine (ahead_any N R M en _ l HB.out).mono ?_
  rintro e w1 ⟨rfl, hb1⟩
  have HR1 : Hid (Rd N R M en w1 l) := HB.out.below hb1
  have HF1 : Hid (Fr (fun k => k = R) w w1) := Fr.below hb1
  unfold tokA
  clear hb1
  go_wp2_with fail
  refine (risname_any _ HSZ.out _).mono ?_
  rintro e w2 ⟨rfl, hb2⟩
  rw [HBB.out]
  have HR2 : Hid (Rd N R M en w2 l) := HR1.out.below hb2
  have HF2 : Hid (Fr (fun k => k = R) w w2) := HF1.out.trans (Fr.below hb2)
  clear hb2 hf2
  go_wp2_with fail
  refine (pass_any N R M en B w2 l HR2.out HL.out).mono ?_
  intro e w3 hp
  have HP2 : Hid (PostR (passP en B l) (fun t v _ => v = tokA t) N R M en (fun k => k = R) w e w3) := hp.fr HF2.out
  clear hp
  cases B
  · obtain ⟨rfl, hfr⟩ := HP2.out
    go_wp2
    exact ⟨rfl, rfl, hfr⟩
  · obtain ⟨v, rfl, rfl, hrd, hfr⟩ := HP2.out
    have hf2 := tokF2 (headT en l)
    unfold tokA
    go_wp2
    go_ret
    exact ⟨_, rfl, ⟨rfl, HSZ.out⟩, hrd, hfr⟩

/-- A list of strings. -/
def SArg (w : World) (v : Value) (l : List ByteArray) : Prop :=
  ∃ a c, v = .slice a l.length c ∧ (l.length ≤ c ∧ c ≤ maxLen) ∧ ∀ (i : Nat) (z : ByteArray), l[i]? = some z → ∃ b off, a = some ⟨b, off, none⟩ ∧ b < w.heap.size ∧ w.cell? ⟨b, off + i, none⟩ = some (.string z)
theorem SArg.below {w w' : World} {v : Value} {l : List ByteArray} (hb : Below w.heap.size w w') (h : SArg w v l) : SArg w' v l := by
  obtain ⟨a, c, hv, hm, hr⟩ := h
  refine ⟨a, c, hv, hm, fun i z hz => ?_⟩
  obtain ⟨b, off, ha, hlt, hc⟩ := hr i z hz
  exact ⟨b, off, ha, Nat.lt_of_lt_of_le hlt hb.size, (hb.cell (p := ⟨b, off + i, none⟩) hlt).trans hc⟩
theorem idx_hit (l : List ByteArray) (n : ByteArray) (m : Nat) (z : ByteArray) (hz : l[m]? = some z) (h : (n.toList == z.toList) = true) : idxA (l.drop m) n m = (m : Int) := by
  have hm : m < l.length := (List.getElem?_eq_some_iff.1 hz).1
  rw [List.drop_eq_getElem_cons hm]
  have : l[m] = z := by rw [List.getElem?_eq_getElem hm] at hz; exact Option.some.inj hz
  rw [this, idxA, h, if_pos rfl]
theorem idx_miss (l : List ByteArray) (n : ByteArray) (m : Nat) (z : ByteArray) (hz : l[m]? = some z) (h : (n.toList == z.toList) = false) : idxA (l.drop m) n m = idxA (l.drop (m + 1)) n (m + 1) := by
  have hm : m < l.length := (List.getElem?_eq_some_iff.1 hz).1
  rw [List.drop_eq_getElem_cons hm]
  have : l[m] = z := by rw [List.getElem?_eq_getElem hm] at hz; exact Option.some.inj hz
  rw [this, idxA, h, if_neg (by simp)]

set_option maxHeartbeats 400000 in
set_option maxRecDepth 100000 in
theorem index_strs (l : List ByteArray) (v : Value) (n : ByteArray) (w : World) (hv : SArg w v l) :
    Calls Tryz.prog 117 #[v, .string n] w fun e w' => e = .returned (.int .i64 (idxA l n 0)) ∧ w' = w := by
  obtain ⟨a, c, rfl, hm, hr⟩ := hv
  have HV : Hid (∀ (i : Nat) (z : ByteArray), l[i]? = some z → ∃ b off, a = some ⟨b, off, none⟩ ∧ b < w.heap.size ∧ w.cell? ⟨b, off + i, none⟩ = some (.string z)) := hr
  obtain ⟨R, hR⟩ : ∃ R, idxA l n 0 = R := ⟨_, rfl⟩
  rw [hR]
  have HR : Hid (idxA l n 0 = R) := hR
  unfold maxLen at hm
  obtain ⟨hm1, hm⟩ := hm
  clear hr hR
  go_enter Tryz.func117, Tryz.ntmps117
  go_wp2_with fail
  go_loop [8] (fun i => ∃ m : Nat, m ≤ l.length ∧ i = .int .i64 m ∧ Hid (idxA (l.drop m) n m = R)) (fun i => l.length - (intOf i).toNat)
  case atStart => exact ⟨0, by omega, rfl, HR⟩
  case round =>
    obtain ⟨m, hml, rfl, hall⟩ := hrel
    by_cases hlt : m < l.length
    · obtain ⟨z, hz⟩ : ∃ z, l[m]? = some z := ⟨l[m], by simp [hlt]⟩
      obtain ⟨b, off, ha, hb, hc⟩ := HV.out m z hz
      have HZ : Hid (l[m]? = some z) := hz
      subst ha
      clear hz
      cases hq : (n.toList == z.toList)
      · have HN : Hid (idxA (l.drop (m + 1)) n (m + 1) = R) := by show _ = _; rw [← idx_miss l n m z HZ.out hq]; exact hall.out
        go_wp2
        go_round
        case rel => exact ⟨m + 1, by omega, by go_num, HN⟩
        case measure => simp [intOf]; omega
      · have HN : Hid (R = (m : Int)) := by rw [← hall.out]; exact idx_hit l n m z HZ.out hq
        go_wp2
        go_ret
        exact ⟨ret_int HN.out.symm, rfl⟩
    · have HN : Hid (R = -1) := by
        have h := hall.out
        rw [List.drop_eq_nil_of_le (by omega)] at h
        exact h.symm
      go_wp2
      go_ret
      exact ⟨ret_int HN.out.symm, rfl⟩

set_option maxHeartbeats 800000 in
set_option maxRecDepth 100000 in
theorem oneof_any (N R M : Nat) (en : Int) (texts : List ByteArray) (v : Value) (w : World) (l : List Tok) (h : Rd N R M en w l) (hv : SArg w v texts) :
    Calls Tryz.prog 98 #[.pointer (some ⟨R, 0, none⟩), v] w (PostR (oneOfP en texts l) (fun i v _ => v = .int .i64 i) N R M en (fun k => k = R) w) := by
  have hf0 := tokF0 (headT en l)
  have hf2 := tokF2 (headT en l)
  have HB : Hid (Rd N R M en w l) := h
  have HV : Hid (∀ w', Below w.heap.size w w' → SArg w' v texts) := fun w' hb => SArg.below hb hv
  obtain ⟨a, c, rfl, _, _⟩ := hv
  obtain ⟨I, hI⟩ : ∃ I, idxA texts (headT en l).text 0 = I := ⟨_, rfl⟩
  have HI : Hid (idxA texts (headT en l).text 0 = I) := hI
  obtain ⟨P, hP⟩ : ∃ P, oneOfP en texts l = P := ⟨_, rfl⟩
  have HP : Hid (P = (passP en (decide (0 ≤ I) && ((headT en l).kind != 0)) l).bind fun _ r => .ok I r) := by show _ = _; rw [← hP]; unfold oneOfP; rw [hI]
  rw [hP]
  have HL : Hid (((headT en l).kind != 0) = true → l ≠ []) := by
    intro hb hl
    subst hl
    have h2 : ((0 : Int) != 0) = true := hb
    simp at h2
  clear hI h hP
  go_enter Tryz.func98, Tryz.ntmps98
  go_wp2_with fail
  refine (ahead_any N R M en _ l HB.out).mono ?_
  rintro e w1 ⟨rfl, hb1⟩
  have HR1 : Hid (Rd N R M en w1 l) := HB.out.below hb1
  have HF1 : Hid (Fr (fun k => k = R) w w1) := Fr.below hb1
  have HV1 : Hid (SArg w1 (.slice a texts.length c) texts) := HV.out _ hb1
  unfold tokA
  clear hb1
  go_wp2_with fail
  refine (index_strs texts _ _ _ HV1.out).mono ?_
  rintro e w1 ⟨rfl, rfl⟩
  rw [HI.out]
  by_cases h0 : 0 ≤ I
  · have HD : Hid (decide (0 ≤ I) = true) := decide_eq_true h0
    obtain ⟨K, hK⟩ : ∃ K, ((headT en l).kind != 0) = K := ⟨_, rfl⟩
    have HK : Hid (((headT en l).kind != 0) = K) := hK
    have HP2 : Hid (P = (passP en K l).bind fun _ r => .ok I r) := by show _ = _; rw [HP.out, HD.out, hK]; rfl
    clear hK
    go_wp2_with fail
    refine (ahead_any N R M en _ l HR1.out).mono ?_
    rintro e w2 ⟨rfl, hb2⟩
    have HR2 : Hid (Rd N R M en w2 l) := HR1.out.below hb2
    have HF2 : Hid (Fr (fun k => k = R) w w2) := HF1.out.trans (Fr.below hb2)
    unfold tokA
    clear hb2
    go_wp2_with fail
    rw [HK.out]
    refine (pass_any N R M en K w2 l HR2.out (fun hb => HL.out (HK.out.trans hb))).mono ?_
    intro e w3 hp
    have HP3 : Hid (PostR (passP en K l) (fun t v _ => v = tokA t) N R M en (fun k => k = R) w e w3) := hp.fr HF2.out
    clear hp
    cases K
    · obtain ⟨rfl, hfr⟩ := HP3.out
      go_wp2
      exact ⟨rfl, by rw [HP2.out]; exact ⟨rfl, hfr⟩⟩
    · obtain ⟨v, rfl, rfl, hrd, hfr⟩ := HP3.out
      unfold tokA
      go_wp2
      go_ret
      rw [HP2.out]
      exact ⟨_, rfl, rfl, hrd, hfr⟩
  · have HP2 : Hid (P = (passP en false l).bind fun _ r => .ok I r) := by show _ = _; rw [HP.out, decide_eq_false h0]; rfl
    go_wp2_with fail
    refine (pass_any N R M en false w1 l HR1.out (fun hb => by cases hb)).mono ?_
    intro e w3 hp
    have HP3 : Hid (PostR (passP en false l) (fun t v _ => v = tokA t) N R M en (fun k => k = R) w e w3) := hp.fr HF1.out
    clear hp
    obtain ⟨rfl, hfr⟩ := HP3.out
    go_wp2
    exact ⟨rfl, by rw [HP2.out]; exact ⟨rfl, hfr⟩⟩
end Go.Proofs.YtdjbejlbmaiocabGreatDoor
/-
  The library's contracts at this program, laid: one application each.
-/
namespace Go.Proofs
open Go.Shelf
def Tryz.lays169_ren : Go.Shelf.Ren := ⟨fun | 169 => 29 | n => n, fun | 70 => 61 | 9 => 9 | 0 => 0 | 72 => 64 | 37 => 62 | 127 => 105 | 3 => 3 | 5 => 5 | n => n, fun | n => n⟩
theorem Tryz.lays169 : Go.Proofs.Lays.n169 Tryz.prog Tryz.lays169_ren := {
  mixed := by kernel_rfl
  f169 := Tryz.func29.trans (congrArg some (by kernel_rfl))
  t0 := Tryz.underlying0
  a0 := Tryz.isAgg0
  z0 := Tryz.sizeOf0
  v0 := Tryz.zeroValue0
  t3 := Tryz.underlying3
  a3 := Tryz.isAgg3
  z3 := Tryz.sizeOf3
  v3 := Tryz.zeroValue3
  t9 := Tryz.underlying9
  a9 := Tryz.isAgg9
  z9 := Tryz.sizeOf9
  v9 := Tryz.zeroValue9
  t37 := Tryz.underlying62
  a37 := Tryz.isAgg62
  z37 := Tryz.sizeOf62
  v37 := Tryz.zeroValue62
  t70 := Tryz.underlying61
  a70 := Tryz.isAgg61
  z70 := Tryz.sizeOf61
  v70 := Tryz.zeroValue61
  t72 := Tryz.underlying64
  a72 := Tryz.isAgg64
  z72 := Tryz.sizeOf64
  v72 := Tryz.zeroValue64
  t127 := Tryz.underlying105
  a127 := Tryz.isAgg105
  z127 := Tryz.sizeOf105
  v127 := Tryz.zeroValue105 }
theorem Tryz.Builder_Extra_169 : Builder.Extra Tryz.prog Tryz.lays169_ren := {
  sizeBuilder := by kernel_rfl
  liesBuilder := by kernel_rfl
  t5 := Tryz.underlying5
  a5 := Tryz.isAgg5
  z5 := Tryz.sizeOf5
  v5 := Tryz.zeroValue5
  infoByte := by kernel_rfl
  cellsByte := by kernel_rfl
  sizeByte := by kernel_rfl
  neB5 := by decide }
open Go.RowKit in
theorem Tryz.Builder_String (B b : Nat) (l : List UInt8) (w : World) (h : Lib.IsBuilder 64 5 B b (Lib.byteCells l) w) (h0 : l ≠ []) :
    Calls Tryz.prog 29 #[.pointer (some ⟨b, 0, none⟩)] w fun e w' => e = .returned (.string ⟨l.toArray⟩) ∧ Below B w w' := Any.Builder_String Tryz.lays169 Tryz.Builder_Extra_169 B b l w h h0
open Go.RowKit in
theorem Tryz.Builder_String_empty (B b : Nat) (w : World) (h : Lib.IsBuilder 64 5 B b [] w) (hBw : B ≤ w.heap.size) :
    Calls Tryz.prog 29 #[.pointer (some ⟨b, 0, none⟩)] w fun e w' => e = .returned (.string ⟨#[]⟩) ∧ Below B w w' := Any.Builder_String_empty Tryz.lays169 Tryz.Builder_Extra_169 B b w h hBw
open Go.RowKit in
theorem Tryz.Builder_String_any (B b : Nat) (l : List UInt8) (w : World) (h : Lib.IsBuilder 64 5 B b (Lib.byteCells l) w) (hBw : B ≤ w.heap.size) :
    Calls Tryz.prog 29 #[.pointer (some ⟨b, 0, none⟩)] w fun e w' => e = .returned (.string ⟨l.toArray⟩) ∧ Below B w w' := Any.Builder_String_any Tryz.lays169 Tryz.Builder_Extra_169 B b l w h hBw
def Tryz.lays241_ren : Go.Shelf.Ren := ⟨fun | 241 => 122 | 277 => 126 | n => n, fun | 70 => 61 | 3 => 3 | 0 => 0 | 72 => 64 | 37 => 62 | 5 => 5 | n => n, fun | n => n⟩
theorem Tryz.lays241 : Go.Proofs.Lays.n241 Tryz.prog Tryz.lays241_ren := {
  mixed := by kernel_rfl
  f241 := Tryz.func122.trans (congrArg some (by kernel_rfl))
  f277 := Tryz.func126.trans (congrArg some (by kernel_rfl))
  t0 := Tryz.underlying0
  a0 := Tryz.isAgg0
  z0 := Tryz.sizeOf0
  v0 := Tryz.zeroValue0
  t3 := Tryz.underlying3
  a3 := Tryz.isAgg3
  z3 := Tryz.sizeOf3
  v3 := Tryz.zeroValue3
  t37 := Tryz.underlying62
  a37 := Tryz.isAgg62
  z37 := Tryz.sizeOf62
  v37 := Tryz.zeroValue62
  t70 := Tryz.underlying61
  a70 := Tryz.isAgg61
  z70 := Tryz.sizeOf61
  v70 := Tryz.zeroValue61
  t72 := Tryz.underlying64
  a72 := Tryz.isAgg64
  z72 := Tryz.sizeOf64
  v72 := Tryz.zeroValue64 }
theorem Tryz.Builder_Extra_241 : Builder.Extra Tryz.prog Tryz.lays241_ren := {
  sizeBuilder := by kernel_rfl
  liesBuilder := by kernel_rfl
  t5 := Tryz.underlying5
  a5 := Tryz.isAgg5
  z5 := Tryz.sizeOf5
  v5 := Tryz.zeroValue5
  infoByte := by kernel_rfl
  cellsByte := by kernel_rfl
  sizeByte := by kernel_rfl
  neB5 := by decide }
open Go.RowKit in
theorem Tryz.Builder_grow_fresh (B b n : Nat) (w : World) (hB : B ≤ b) (hbk : w.heap[b]? = some (.cells #[.pointer (some ⟨b, 0, none⟩), .slice none 0 0] 64 (0, 0))) (hBw : B ≤ w.heap.size) (hn : n ≤ 281474976710656) :
    Calls Tryz.prog 122 #[.pointer (some ⟨b, 0, none⟩), .int .i64 n] w fun e w' => e = .returned (.tuple #[]) ∧ (Lib.BuilderAt 64 5 B b (.pointer (some ⟨b, 0, none⟩)) [] w' ∧ Below B w w') := Any.Builder_grow_fresh Tryz.lays241 Tryz.Builder_Extra_241 B b n w hB hbk hBw hn
def Tryz.lays165_ren : Go.Shelf.Ren := ⟨fun | 165 => 111 | 240 => 110 | 241 => 122 | 276 => 121 | 277 => 126 | n => n, fun | 70 => 61 | 3 => 3 | 0 => 0 | 4 => 4 | 9 => 9 | 20 => 20 | 72 => 64 | 37 => 62 | 164 => 141 | 5 => 5 | n => n, fun | n => n⟩
theorem Tryz.lays165 : Go.Proofs.Lays.n165 Tryz.prog Tryz.lays165_ren := {
  mixed := by kernel_rfl
  f165 := Tryz.func111.trans (congrArg some (by kernel_rfl))
  f240 := Tryz.func110.trans (congrArg some (by kernel_rfl))
  f241 := Tryz.func122.trans (congrArg some (by kernel_rfl))
  f276 := Tryz.func121.trans (congrArg some (by kernel_rfl))
  f277 := Tryz.func126.trans (congrArg some (by kernel_rfl))
  t0 := Tryz.underlying0
  a0 := Tryz.isAgg0
  z0 := Tryz.sizeOf0
  v0 := Tryz.zeroValue0
  t3 := Tryz.underlying3
  a3 := Tryz.isAgg3
  z3 := Tryz.sizeOf3
  v3 := Tryz.zeroValue3
  t4 := Tryz.underlying4
  a4 := Tryz.isAgg4
  z4 := Tryz.sizeOf4
  v4 := Tryz.zeroValue4
  t9 := Tryz.underlying9
  a9 := Tryz.isAgg9
  z9 := Tryz.sizeOf9
  v9 := Tryz.zeroValue9
  t20 := Tryz.underlying20
  a20 := Tryz.isAgg20
  z20 := Tryz.sizeOf20
  v20 := Tryz.zeroValue20
  t37 := Tryz.underlying62
  a37 := Tryz.isAgg62
  z37 := Tryz.sizeOf62
  v37 := Tryz.zeroValue62
  t70 := Tryz.underlying61
  a70 := Tryz.isAgg61
  z70 := Tryz.sizeOf61
  v70 := Tryz.zeroValue61
  t72 := Tryz.underlying64
  a72 := Tryz.isAgg64
  z72 := Tryz.sizeOf64
  v72 := Tryz.zeroValue64
  t164 := Tryz.underlying141
  a164 := Tryz.isAgg141
  z164 := Tryz.sizeOf141
  v164 := Tryz.zeroValue141 }
theorem Tryz.Builder_Extra_165 : Builder.Extra Tryz.prog Tryz.lays165_ren := {
  sizeBuilder := by kernel_rfl
  liesBuilder := by kernel_rfl
  t5 := Tryz.underlying5
  a5 := Tryz.isAgg5
  z5 := Tryz.sizeOf5
  v5 := Tryz.zeroValue5
  infoByte := by kernel_rfl
  cellsByte := by kernel_rfl
  sizeByte := by kernel_rfl
  neB5 := by decide }
open Go.RowKit in
theorem Tryz.Builder_Grow_fresh (B b n : Nat) (w : World) (hB : B ≤ b) (hbk : w.heap[b]? = some (.cells #[.pointer none, .slice none 0 0] 64 (0, 0))) (hBw : B ≤ w.heap.size) (hn : n ≤ 281474976710656) :
    Calls Tryz.prog 111 #[.pointer (some ⟨b, 0, none⟩), .int .i64 n] w fun e w' => e = .returned (.tuple #[]) ∧ (Lib.BuilderAt 64 5 B b (.pointer (some ⟨b, 0, none⟩)) [] w' ∧ Below B w w') := Any.Builder_Grow_fresh Tryz.lays165 Tryz.Builder_Extra_165 B b n w hB hbk hBw hn
def Tryz.lays156_ren : Go.Shelf.Ren := ⟨fun | 156 => 87 | 165 => 111 | 166 => 86 | 169 => 29 | 240 => 110 | 241 => 122 | 276 => 121 | 277 => 126 | n => n, fun | 31 => 57 | 9 => 9 | 3 => 3 | 4 => 4 | 0 => 0 | 20 => 20 | 72 => 64 | 76 => 122 | 70 => 61 | 37 => 62 | 75 => 121 | 127 => 105 | 164 => 141 | 5 => 5 | 80 => 44 | n => n, fun | n => n⟩
theorem Tryz.lays156 : Go.Proofs.Lays.n156 Tryz.prog Tryz.lays156_ren := {
  mixed := by kernel_rfl
  f156 := Tryz.func87.trans (congrArg some (by kernel_rfl))
  f165 := Tryz.func111.trans (congrArg some (by kernel_rfl))
  f166 := Tryz.func86.trans (congrArg some (by kernel_rfl))
  f169 := Tryz.func29.trans (congrArg some (by kernel_rfl))
  f240 := Tryz.func110.trans (congrArg some (by kernel_rfl))
  f241 := Tryz.func122.trans (congrArg some (by kernel_rfl))
  f276 := Tryz.func121.trans (congrArg some (by kernel_rfl))
  f277 := Tryz.func126.trans (congrArg some (by kernel_rfl))
  t0 := Tryz.underlying0
  a0 := Tryz.isAgg0
  z0 := Tryz.sizeOf0
  v0 := Tryz.zeroValue0
  t3 := Tryz.underlying3
  a3 := Tryz.isAgg3
  z3 := Tryz.sizeOf3
  v3 := Tryz.zeroValue3
  t4 := Tryz.underlying4
  a4 := Tryz.isAgg4
  z4 := Tryz.sizeOf4
  v4 := Tryz.zeroValue4
  t9 := Tryz.underlying9
  a9 := Tryz.isAgg9
  z9 := Tryz.sizeOf9
  v9 := Tryz.zeroValue9
  t20 := Tryz.underlying20
  a20 := Tryz.isAgg20
  z20 := Tryz.sizeOf20
  v20 := Tryz.zeroValue20
  t31 := Tryz.underlying57
  a31 := Tryz.isAgg57
  z31 := Tryz.sizeOf57
  v31 := Tryz.zeroValue57
  t37 := Tryz.underlying62
  a37 := Tryz.isAgg62
  z37 := Tryz.sizeOf62
  v37 := Tryz.zeroValue62
  t70 := Tryz.underlying61
  a70 := Tryz.isAgg61
  z70 := Tryz.sizeOf61
  v70 := Tryz.zeroValue61
  t72 := Tryz.underlying64
  a72 := Tryz.isAgg64
  z72 := Tryz.sizeOf64
  v72 := Tryz.zeroValue64
  t75 := Tryz.underlying121
  a75 := Tryz.isAgg121
  z75 := Tryz.sizeOf121
  v75 := Tryz.zeroValue121
  t76 := Tryz.underlying122
  a76 := Tryz.isAgg122
  z76 := Tryz.sizeOf122
  v76 := Tryz.zeroValue122
  t127 := Tryz.underlying105
  a127 := Tryz.isAgg105
  z127 := Tryz.sizeOf105
  v127 := Tryz.zeroValue105
  t164 := Tryz.underlying141
  a164 := Tryz.isAgg141
  z164 := Tryz.sizeOf141
  v164 := Tryz.zeroValue141 }
theorem Tryz.Builder_Extra_156 : Builder.Extra Tryz.prog Tryz.lays156_ren := {
  sizeBuilder := by kernel_rfl
  liesBuilder := by kernel_rfl
  t5 := Tryz.underlying5
  a5 := Tryz.isAgg5
  z5 := Tryz.sizeOf5
  v5 := Tryz.zeroValue5
  infoByte := by kernel_rfl
  cellsByte := by kernel_rfl
  sizeByte := by kernel_rfl
  neB5 := by decide }
open Go.RowKit in
theorem Tryz.strings_Join_none (a : Option Addr) (c : Nat) (sep : ByteArray) (w : World) :
    Calls Tryz.prog 87 #[.slice a 0 c, .string sep] w fun e w' => e = .returned (.string ⟨#[]⟩) ∧ w' = w := Any.strings_Join_none Tryz.lays156 Tryz.Builder_Extra_156 a c sep w
open Go.RowKit in
theorem Tryz.strings_Join (bk o c : Nat) (xs : List ByteArray) (sep : ByteArray) (w : World) (hcells : ∀ (j : Nat) x, xs[j]? = some x → w.cell? ⟨bk, o + j, none⟩ = some (.string x)) (hbk : bk < w.heap.size) (hN : xs.length ≤ 140737488355328) (hcap : xs.length ≤ c) (hlen : (Lib.join (xs.map (·.data.toList)) sep.data.toList).length ≤ 140737488355328) :
    Calls Tryz.prog 87 #[.slice (some ⟨bk, o, none⟩) xs.length c, .string sep] w fun e w' => e = .returned (.string ⟨(Lib.join (xs.map (·.data.toList)) sep.data.toList).toArray⟩) ∧ Below w.heap.size w w' := Any.strings_Join Tryz.lays156 Tryz.Builder_Extra_156 bk o c xs sep w hcells hbk hN hcap hlen
open Go.RowKit in
theorem Tryz.Builder_String_f (B b : Nat) (l : List UInt8) (w : World) (h : Lib.IsBuilderF 64 5 B b (Lib.byteCells l) w) (h0 : l ≠ []) :
    Calls Tryz.prog 29 #[.pointer (some ⟨b, 0, none⟩)] w fun e w' => e = .returned (.string ⟨l.toArray⟩) ∧ (Lib.IsBuilderF 64 5 B b (Lib.byteCells l) w' ∧ Below B w w') := Any.Builder_String_f Tryz.lays169 Tryz.Builder_Extra_169 B b l w h h0
open Go.RowKit in
theorem Tryz.Builder_String_empty_f (B b : Nat) (w : World) (h : Lib.IsBuilderF 64 5 B b [] w) (hBw : B ≤ w.heap.size) :
    Calls Tryz.prog 29 #[.pointer (some ⟨b, 0, none⟩)] w fun e w' => e = .returned (.string ⟨#[]⟩) ∧ (Lib.IsBuilderF 64 5 B b [] w' ∧ Below B w w') := Any.Builder_String_empty_f Tryz.lays169 Tryz.Builder_Extra_169 B b w h hBw
open Go.RowKit in
theorem Tryz.Builder_String_any_f (B b : Nat) (l : List UInt8) (w : World) (h : Lib.IsBuilderF 64 5 B b (Lib.byteCells l) w) (hBw : B ≤ w.heap.size) :
    Calls Tryz.prog 29 #[.pointer (some ⟨b, 0, none⟩)] w fun e w' => e = .returned (.string ⟨l.toArray⟩) ∧ (Lib.IsBuilderF 64 5 B b (Lib.byteCells l) w' ∧ Below B w w') := Any.Builder_String_any_f Tryz.lays169 Tryz.Builder_Extra_169 B b l w h hBw
def Tryz.lays244_ren : Go.Shelf.Ren := ⟨fun | 244 => 124 | 247 => 131 | 287 => 141 | 321 => 146 | 322 => 147 | n => n, fun | 9 => 9 | 3 => 3 | 75 => 121 | 4 => 4 | 5 => 5 | 167 => 152 | 37 => 62 | 0 => 0 | 85 => 153 | 2 => 2 | 53 => 147 | 175 => 165 | 46 => 163 | 21 => 21 | 80 => 44 | n => n, fun | n => n⟩
theorem Tryz.lays244 : Go.Proofs.Lays.n244 Tryz.prog Tryz.lays244_ren := {
  mixed := by kernel_rfl
  f244 := Tryz.func124.trans (congrArg some (by kernel_rfl))
  f247 := Tryz.func131.trans (congrArg some (by kernel_rfl))
  f287 := Tryz.func141.trans (congrArg some (by kernel_rfl))
  f321 := Tryz.func146.trans (congrArg some (by kernel_rfl))
  f322 := Tryz.func147.trans (congrArg some (by kernel_rfl))
  t0 := Tryz.underlying0
  a0 := Tryz.isAgg0
  z0 := Tryz.sizeOf0
  v0 := Tryz.zeroValue0
  t2 := Tryz.underlying2
  a2 := Tryz.isAgg2
  z2 := Tryz.sizeOf2
  v2 := Tryz.zeroValue2
  t3 := Tryz.underlying3
  a3 := Tryz.isAgg3
  z3 := Tryz.sizeOf3
  v3 := Tryz.zeroValue3
  t4 := Tryz.underlying4
  a4 := Tryz.isAgg4
  z4 := Tryz.sizeOf4
  v4 := Tryz.zeroValue4
  t5 := Tryz.underlying5
  a5 := Tryz.isAgg5
  z5 := Tryz.sizeOf5
  v5 := Tryz.zeroValue5
  t9 := Tryz.underlying9
  a9 := Tryz.isAgg9
  z9 := Tryz.sizeOf9
  v9 := Tryz.zeroValue9
  t21 := Tryz.underlying21
  a21 := Tryz.isAgg21
  z21 := Tryz.sizeOf21
  v21 := Tryz.zeroValue21
  t37 := Tryz.underlying62
  a37 := Tryz.isAgg62
  z37 := Tryz.sizeOf62
  v37 := Tryz.zeroValue62
  t46 := Tryz.underlying163
  a46 := Tryz.isAgg163
  z46 := Tryz.sizeOf163
  v46 := Tryz.zeroValue163
  t53 := Tryz.underlying147
  a53 := Tryz.isAgg147
  z53 := Tryz.sizeOf147
  v53 := Tryz.zeroValue147
  t75 := Tryz.underlying121
  a75 := Tryz.isAgg121
  z75 := Tryz.sizeOf121
  v75 := Tryz.zeroValue121
  t85 := Tryz.underlying153
  a85 := Tryz.isAgg153
  z85 := Tryz.sizeOf153
  v85 := Tryz.zeroValue153
  t167 := Tryz.underlying152
  a167 := Tryz.isAgg152
  z167 := Tryz.sizeOf152
  v167 := Tryz.zeroValue152
  t175 := Tryz.underlying165
  a175 := Tryz.isAgg165
  z175 := Tryz.sizeOf165
  v175 := Tryz.zeroValue165 }
open Go.RowKit in
theorem Tryz.internal_strconv_Atoi (s : ByteArray) (n : Int) (hl : s.size ≤ 18) (h : Lib.atoi s.data.toList = some n) (w : World) :
    Calls Tryz.prog 124 #[.string s] w fun e w' => e = .returned (.tuple #[.int .i64 n, .nilIface]) ∧ ∃ t, w' = Lib.bytesWorld w 5 t := Any.internal_strconv_Atoi Tryz.lays244 s n hl h w
def Tryz.lays172_ren : Go.Shelf.Ren := ⟨fun | 172 => 116 | 244 => 124 | 245 => 125 | 247 => 131 | 279 => 132 | 280 => 133 | 281 => 134 | 282 => 135 | 287 => 141 | 316 => 142 | 171 => 88 | 205 => 143 | 321 => 146 | 322 => 147 | 243 => 112 | 246 => 123 | 283 => 127 | 284 => 128 | 285 => 129 | 286 => 130 | 129 => 137 | 317 => 136 | 318 => 138 | 319 => 139 | 320 => 140 | 337 => 144 | 338 => 145 | n => n, fun | 9 => 9 | 3 => 3 | 75 => 121 | 76 => 122 | 4 => 4 | 5 => 5 | 167 => 152 | 37 => 62 | 0 => 0 | 85 => 153 | 2 => 2 | 168 => 155 | 53 => 147 | 175 => 165 | 46 => 163 | 210 => 169 | 127 => 105 | 145 => 175 | 143 => 173 | 21 => 21 | 171 => 146 | 173 => 150 | 212 => 160 | 51 => 161 | 20 => 20 | 213 => 162 | 232 => 176 | 233 => 177 | 80 => 44 | n => n, fun | 15 => 2 | 16 => 3 | 17 => 1 | 18 => 4 | 19 => 5 | n => n⟩
theorem Tryz.lays172 : Go.Proofs.Lays.n172 Tryz.prog Tryz.lays172_ren := {
  mixed := by kernel_rfl
  f129 := Tryz.func137.trans (congrArg some (by kernel_rfl))
  f171 := Tryz.func88.trans (congrArg some (by kernel_rfl))
  f172 := Tryz.func116.trans (congrArg some (by kernel_rfl))
  f205 := Tryz.func143.trans (congrArg some (by kernel_rfl))
  f243 := Tryz.func112.trans (congrArg some (by kernel_rfl))
  f244 := Tryz.func124.trans (congrArg some (by kernel_rfl))
  f245 := Tryz.func125.trans (congrArg some (by kernel_rfl))
  f246 := Tryz.func123.trans (congrArg some (by kernel_rfl))
  f247 := Tryz.func131.trans (congrArg some (by kernel_rfl))
  f279 := Tryz.func132.trans (congrArg some (by kernel_rfl))
  f280 := Tryz.func133.trans (congrArg some (by kernel_rfl))
  f281 := Tryz.func134.trans (congrArg some (by kernel_rfl))
  f282 := Tryz.func135.trans (congrArg some (by kernel_rfl))
  f283 := Tryz.func127.trans (congrArg some (by kernel_rfl))
  f284 := Tryz.func128.trans (congrArg some (by kernel_rfl))
  f285 := Tryz.func129.trans (congrArg some (by kernel_rfl))
  f286 := Tryz.func130.trans (congrArg some (by kernel_rfl))
  f287 := Tryz.func141.trans (congrArg some (by kernel_rfl))
  f316 := Tryz.func142.trans (congrArg some (by kernel_rfl))
  f317 := Tryz.func136.trans (congrArg some (by kernel_rfl))
  f318 := Tryz.func138.trans (congrArg some (by kernel_rfl))
  f319 := Tryz.func139.trans (congrArg some (by kernel_rfl))
  f320 := Tryz.func140.trans (congrArg some (by kernel_rfl))
  f321 := Tryz.func146.trans (congrArg some (by kernel_rfl))
  f322 := Tryz.func147.trans (congrArg some (by kernel_rfl))
  f337 := Tryz.func144.trans (congrArg some (by kernel_rfl))
  f338 := Tryz.func145.trans (congrArg some (by kernel_rfl))
  t0 := Tryz.underlying0
  a0 := Tryz.isAgg0
  z0 := Tryz.sizeOf0
  v0 := Tryz.zeroValue0
  t2 := Tryz.underlying2
  a2 := Tryz.isAgg2
  z2 := Tryz.sizeOf2
  v2 := Tryz.zeroValue2
  t3 := Tryz.underlying3
  a3 := Tryz.isAgg3
  z3 := Tryz.sizeOf3
  v3 := Tryz.zeroValue3
  t4 := Tryz.underlying4
  a4 := Tryz.isAgg4
  z4 := Tryz.sizeOf4
  v4 := Tryz.zeroValue4
  t5 := Tryz.underlying5
  a5 := Tryz.isAgg5
  z5 := Tryz.sizeOf5
  v5 := Tryz.zeroValue5
  t9 := Tryz.underlying9
  a9 := Tryz.isAgg9
  z9 := Tryz.sizeOf9
  v9 := Tryz.zeroValue9
  t20 := Tryz.underlying20
  a20 := Tryz.isAgg20
  z20 := Tryz.sizeOf20
  v20 := Tryz.zeroValue20
  t21 := Tryz.underlying21
  a21 := Tryz.isAgg21
  z21 := Tryz.sizeOf21
  v21 := Tryz.zeroValue21
  t37 := Tryz.underlying62
  a37 := Tryz.isAgg62
  z37 := Tryz.sizeOf62
  v37 := Tryz.zeroValue62
  t46 := Tryz.underlying163
  a46 := Tryz.isAgg163
  z46 := Tryz.sizeOf163
  v46 := Tryz.zeroValue163
  t51 := Tryz.underlying161
  a51 := Tryz.isAgg161
  z51 := Tryz.sizeOf161
  v51 := Tryz.zeroValue161
  t53 := Tryz.underlying147
  a53 := Tryz.isAgg147
  z53 := Tryz.sizeOf147
  v53 := Tryz.zeroValue147
  t75 := Tryz.underlying121
  a75 := Tryz.isAgg121
  z75 := Tryz.sizeOf121
  v75 := Tryz.zeroValue121
  t76 := Tryz.underlying122
  a76 := Tryz.isAgg122
  z76 := Tryz.sizeOf122
  v76 := Tryz.zeroValue122
  t85 := Tryz.underlying153
  a85 := Tryz.isAgg153
  z85 := Tryz.sizeOf153
  v85 := Tryz.zeroValue153
  t127 := Tryz.underlying105
  a127 := Tryz.isAgg105
  z127 := Tryz.sizeOf105
  v127 := Tryz.zeroValue105
  t143 := Tryz.underlying173
  a143 := Tryz.isAgg173
  z143 := Tryz.sizeOf173
  v143 := Tryz.zeroValue173
  t145 := Tryz.underlying175
  a145 := Tryz.isAgg175
  z145 := Tryz.sizeOf175
  v145 := Tryz.zeroValue175
  t167 := Tryz.underlying152
  a167 := Tryz.isAgg152
  z167 := Tryz.sizeOf152
  v167 := Tryz.zeroValue152
  t168 := Tryz.underlying155
  a168 := Tryz.isAgg155
  z168 := Tryz.sizeOf155
  v168 := Tryz.zeroValue155
  t171 := Tryz.underlying146
  a171 := Tryz.isAgg146
  z171 := Tryz.sizeOf146
  v171 := Tryz.zeroValue146
  t173 := Tryz.underlying150
  a173 := Tryz.isAgg150
  z173 := Tryz.sizeOf150
  v173 := Tryz.zeroValue150
  t175 := Tryz.underlying165
  a175 := Tryz.isAgg165
  z175 := Tryz.sizeOf165
  v175 := Tryz.zeroValue165
  t210 := Tryz.underlying169
  a210 := Tryz.isAgg169
  z210 := Tryz.sizeOf169
  v210 := Tryz.zeroValue169
  t212 := Tryz.underlying160
  a212 := Tryz.isAgg160
  z212 := Tryz.sizeOf160
  v212 := Tryz.zeroValue160
  t213 := Tryz.underlying162
  a213 := Tryz.isAgg162
  z213 := Tryz.sizeOf162
  t232 := Tryz.underlying176
  a232 := Tryz.isAgg176
  z232 := Tryz.sizeOf176
  v232 := Tryz.zeroValue176
  t233 := Tryz.underlying177
  a233 := Tryz.isAgg177
  z233 := Tryz.sizeOf177
  v233 := Tryz.zeroValue177
  g15 := by kernel_rfl
  g16 := by kernel_rfl
  g17 := by kernel_rfl
  g18 := by kernel_rfl
  g19 := by kernel_rfl }
open Go.RowKit in
theorem Tryz.strconv_Atoi (s : ByteArray) (n : Int) (hl : s.size ≤ 18) (h : Lib.atoi s.data.toList = some n) (w : World) :
    Calls Tryz.prog 116 #[.string s] w fun e w' => e = .returned (.tuple #[.int .i64 n, .nilIface]) ∧ ∃ t, w' = Lib.bytesWorld w 5 t := Any.strconv_Atoi Tryz.lays172 s n hl h w
def Tryz.lays129_ren : Go.Shelf.Ren := ⟨fun | 129 => 137 | n => n, fun | 53 => 147 | 3 => 3 | 4 => 4 | 46 => 163 | 5 => 5 | 9 => 9 | n => n, fun | n => n⟩
theorem Tryz.lays129 : Go.Proofs.Lays.n129 Tryz.prog Tryz.lays129_ren := {
  mixed := by kernel_rfl
  f129 := Tryz.func137.trans (congrArg some (by kernel_rfl))
  t3 := Tryz.underlying3
  a3 := Tryz.isAgg3
  z3 := Tryz.sizeOf3
  v3 := Tryz.zeroValue3
  t4 := Tryz.underlying4
  a4 := Tryz.isAgg4
  z4 := Tryz.sizeOf4
  v4 := Tryz.zeroValue4
  t5 := Tryz.underlying5
  a5 := Tryz.isAgg5
  z5 := Tryz.sizeOf5
  v5 := Tryz.zeroValue5
  t9 := Tryz.underlying9
  a9 := Tryz.isAgg9
  z9 := Tryz.sizeOf9
  v9 := Tryz.zeroValue9
  t46 := Tryz.underlying163
  a46 := Tryz.isAgg163
  z46 := Tryz.sizeOf163
  v46 := Tryz.zeroValue163
  t53 := Tryz.underlying147
  a53 := Tryz.isAgg147
  z53 := Tryz.sizeOf147
  v53 := Tryz.zeroValue147 }
theorem Tryz.bits_Len64 (x : Int) (w : World) (h0 : 0 ≤ x) (h1 : x ≤ 18446744073709551615) :
    Calls Tryz.prog 137 #[.int .u64 x] w fun e w' => e = .returned (.int .i64 (Lib.bitLen x.toNat)) ∧ w' = w := Any.bits_Len64 Tryz.lays129 x w h0 h1
def Tryz.lays317_ren : Go.Shelf.Ren := ⟨fun | 317 => 136 | n => n, fun | 3 => 3 | 46 => 163 | n => n, fun | n => n⟩
theorem Tryz.lays317 : Go.Proofs.Lays.n317 Tryz.prog Tryz.lays317_ren := {
  mixed := by kernel_rfl
  f317 := Tryz.func136.trans (congrArg some (by kernel_rfl))
  t3 := Tryz.underlying3
  a3 := Tryz.isAgg3
  z3 := Tryz.sizeOf3
  v3 := Tryz.zeroValue3
  t46 := Tryz.underlying163
  a46 := Tryz.isAgg163
  z46 := Tryz.sizeOf163
  v46 := Tryz.zeroValue163 }
open Go.Lib in
theorem Tryz.internal_strconv_log10Pow2 (x : Nat) (h : x ≤ 64) (w : World) :
    Calls Tryz.prog 136 #[.int .i64 x] w fun e w' => e = .returned (.int .i64 (Lib.l10 x)) ∧ w' = w := Any.internal_strconv_log10Pow2 Tryz.lays317 x h w
def Tryz.lays318_ren : Go.Shelf.Ren := ⟨fun | 318 => 138 | n => n, fun | 3 => 3 | 4 => 4 | n => n, fun | n => n⟩
theorem Tryz.lays318 : Go.Proofs.Lays.n318 Tryz.prog Tryz.lays318_ren := {
  mixed := by kernel_rfl
  f318 := Tryz.func138.trans (congrArg some (by kernel_rfl))
  t3 := Tryz.underlying3
  a3 := Tryz.isAgg3
  z3 := Tryz.sizeOf3
  v3 := Tryz.zeroValue3
  t4 := Tryz.underlying4
  a4 := Tryz.isAgg4
  z4 := Tryz.sizeOf4
  v4 := Tryz.zeroValue4 }
open Go.Lib in
theorem Tryz.internal_strconv_bool2_int (b : Bool) (w : World) :
    Calls Tryz.prog 138 #[.bool b] w fun e w' => e = .returned (.int .i64 (if b then 1 else 0)) ∧ w' = w := Any.internal_strconv_bool2_int Tryz.lays318 b w
def Tryz.lays283_ren : Go.Shelf.Ren := ⟨fun | 283 => 127 | n => n, fun | 3 => 3 | 9 => 9 | 4 => 4 | n => n, fun | n => n⟩
theorem Tryz.lays283 : Go.Proofs.Lays.n283 Tryz.prog Tryz.lays283_ren := {
  mixed := by kernel_rfl
  f283 := Tryz.func127.trans (congrArg some (by kernel_rfl))
  t3 := Tryz.underlying3
  a3 := Tryz.isAgg3
  z3 := Tryz.sizeOf3
  v3 := Tryz.zeroValue3
  t4 := Tryz.underlying4
  a4 := Tryz.isAgg4
  z4 := Tryz.sizeOf4
  v4 := Tryz.zeroValue4
  t9 := Tryz.underlying9
  a9 := Tryz.isAgg9
  z9 := Tryz.sizeOf9
  v9 := Tryz.zeroValue9 }
open Go.Lib in
theorem Tryz.internal_strconv_small (i : Nat) (h : i < 100) (w : World) :
    Calls Tryz.prog 127 #[.int .i64 i] w fun e w' => e = .returned (.string ⟨(Lib.decDigits i).toArray⟩) ∧ w' = w := Any.internal_strconv_small Tryz.lays283 i h w
def Tryz.laysM284_ren : Go.Shelf.Ren := ⟨fun | 284 => 128 | 129 => 137 | 317 => 136 | 318 => 138 | n => n, fun | 53 => 147 | 3 => 3 | 212 => 160 | 0 => 0 | 4 => 4 | 46 => 163 | 5 => 5 | 9 => 9 | n => n, fun | 17 => 1 | n => n⟩
theorem Tryz.laysM284 : Go.Proofs.LaysM.n284 Tryz.prog Tryz.laysM284_ren := {
  mixed := by kernel_rfl
  f129 := Tryz.func137.trans (congrArg some (by kernel_rfl))
  f284 := Tryz.func128.trans (congrArg some (by kernel_rfl))
  f317 := Tryz.func136.trans (congrArg some (by kernel_rfl))
  f318 := Tryz.func138.trans (congrArg some (by kernel_rfl))
  t0 := Tryz.underlying0
  a0 := Tryz.isAgg0
  z0 := Tryz.sizeOf0
  v0 := Tryz.zeroValue0
  t3 := Tryz.underlying3
  a3 := Tryz.isAgg3
  z3 := Tryz.sizeOf3
  v3 := Tryz.zeroValue3
  t4 := Tryz.underlying4
  a4 := Tryz.isAgg4
  z4 := Tryz.sizeOf4
  v4 := Tryz.zeroValue4
  t5 := Tryz.underlying5
  a5 := Tryz.isAgg5
  z5 := Tryz.sizeOf5
  v5 := Tryz.zeroValue5
  t9 := Tryz.underlying9
  a9 := Tryz.isAgg9
  z9 := Tryz.sizeOf9
  v9 := Tryz.zeroValue9
  t46 := Tryz.underlying163
  a46 := Tryz.isAgg163
  z46 := Tryz.sizeOf163
  v46 := Tryz.zeroValue163
  t53 := Tryz.underlying147
  a53 := Tryz.isAgg147
  z53 := Tryz.sizeOf147
  v53 := Tryz.zeroValue147
  t212 := Tryz.underlying160
  a212 := Tryz.isAgg160
  z212 := Tryz.sizeOf160
  v212 := Tryz.zeroValue160
  g17 := by kernel_rfl
  i0 := by kernel_rfl
  i3 := by kernel_rfl
  i4 := by kernel_rfl
  i5 := by kernel_rfl
  i9 := by kernel_rfl
  i46 := by kernel_rfl
  i53 := by kernel_rfl
  i212 := by kernel_rfl
  m17 := by kernel_rfl }
open Go.Lib in
theorem Tryz.internal_strconv_numDigits (u : Nat) (h1 : 1 ≤ u) (h2 : u < 18446744073709551616) (w : World) (htab : Lib.TabIs Tryz.prog w "internal/strconv.uint64pow10" .u64 Lib.pow10Tab) :
    Calls Tryz.prog 128 #[.int .u64 u] w fun e w' => e = .returned (.int .i64 (Lib.nDigits u)) ∧ w' = w := Any.internal_strconv_numDigits Tryz.laysM284 u h1 h2 w htab
def Tryz.lays285_ren : Go.Shelf.Ren := ⟨fun | 285 => 129 | n => n, fun | 37 => 62 | 53 => 147 | 3 => 3 | 4 => 4 | 51 => 161 | 9 => 9 | 5 => 5 | 0 => 0 | n => n, fun | n => n⟩
theorem Tryz.lays285 : Go.Proofs.Lays.n285 Tryz.prog Tryz.lays285_ren := {
  mixed := by kernel_rfl
  f285 := Tryz.func129.trans (congrArg some (by kernel_rfl))
  t0 := Tryz.underlying0
  a0 := Tryz.isAgg0
  z0 := Tryz.sizeOf0
  v0 := Tryz.zeroValue0
  t3 := Tryz.underlying3
  a3 := Tryz.isAgg3
  z3 := Tryz.sizeOf3
  v3 := Tryz.zeroValue3
  t4 := Tryz.underlying4
  a4 := Tryz.isAgg4
  z4 := Tryz.sizeOf4
  v4 := Tryz.zeroValue4
  t5 := Tryz.underlying5
  a5 := Tryz.isAgg5
  z5 := Tryz.sizeOf5
  v5 := Tryz.zeroValue5
  t9 := Tryz.underlying9
  a9 := Tryz.isAgg9
  z9 := Tryz.sizeOf9
  v9 := Tryz.zeroValue9
  t37 := Tryz.underlying62
  a37 := Tryz.isAgg62
  z37 := Tryz.sizeOf62
  v37 := Tryz.zeroValue62
  t51 := Tryz.underlying161
  a51 := Tryz.isAgg161
  z51 := Tryz.sizeOf161
  v51 := Tryz.zeroValue161
  t53 := Tryz.underlying147
  a53 := Tryz.isAgg147
  z53 := Tryz.sizeOf147
  v53 := Tryz.zeroValue147 }
open Go.RowKit Go.Sort Go.Lib in
theorem Tryz.internal_strconv_formatBase10 (blk off cap : Nat) (u : Nat) (d : Array UInt8) (w : World) (hH : Holds (fun (b : UInt8) => Value.int .u8 (b.toNat : Int)) w blk off d) (hu : u < 10 ^ d.size) (hu64 : u < 18446744073709551616) (hsz : d.size < 4611686018427387904) :
    Calls Tryz.prog 129 #[.slice (some ⟨blk, off, none⟩) d.size cap, .int .u64 u] w fun e w' =>
      e = .returned (.tuple #[]) ∧ ∃ (n v' : Nat) (dk : Array UInt8), w' = (putRow (fun (b : UInt8) => Value.int .u8 (b.toNat : Int)) w blk off dk).drewN n ∧ FmtInv d.size u 0 v' dk := Any.internal_strconv_formatBase10 Tryz.lays285 blk off cap u d w hH hu hu64 hsz
def Tryz.laysM246_ren : Go.Shelf.Ren := ⟨fun | 246 => 123 | 283 => 127 | 284 => 128 | 285 => 129 | 286 => 130 | 129 => 137 | 317 => 136 | 318 => 138 | 319 => 139 | 320 => 140 | 337 => 144 | 338 => 145 | n => n, fun | 2 => 2 | 3 => 3 | 9 => 9 | 4 => 4 | 171 => 146 | 0 => 0 | 53 => 147 | 37 => 62 | 5 => 5 | 173 => 150 | 212 => 160 | 51 => 161 | 20 => 20 | 213 => 162 | 46 => 163 | 232 => 176 | 233 => 177 | n => n, fun | 17 => 1 | 18 => 4 | 19 => 5 | n => n⟩
theorem Tryz.laysM246 : Go.Proofs.LaysM.n246 Tryz.prog Tryz.laysM246_ren := {
  mixed := by kernel_rfl
  f129 := Tryz.func137.trans (congrArg some (by kernel_rfl))
  f246 := Tryz.func123.trans (congrArg some (by kernel_rfl))
  f283 := Tryz.func127.trans (congrArg some (by kernel_rfl))
  f284 := Tryz.func128.trans (congrArg some (by kernel_rfl))
  f285 := Tryz.func129.trans (congrArg some (by kernel_rfl))
  f286 := Tryz.func130.trans (congrArg some (by kernel_rfl))
  f317 := Tryz.func136.trans (congrArg some (by kernel_rfl))
  f318 := Tryz.func138.trans (congrArg some (by kernel_rfl))
  f319 := Tryz.func139.trans (congrArg some (by kernel_rfl))
  f320 := Tryz.func140.trans (congrArg some (by kernel_rfl))
  f337 := Tryz.func144.trans (congrArg some (by kernel_rfl))
  f338 := Tryz.func145.trans (congrArg some (by kernel_rfl))
  t0 := Tryz.underlying0
  a0 := Tryz.isAgg0
  z0 := Tryz.sizeOf0
  v0 := Tryz.zeroValue0
  t2 := Tryz.underlying2
  a2 := Tryz.isAgg2
  z2 := Tryz.sizeOf2
  v2 := Tryz.zeroValue2
  t3 := Tryz.underlying3
  a3 := Tryz.isAgg3
  z3 := Tryz.sizeOf3
  v3 := Tryz.zeroValue3
  t4 := Tryz.underlying4
  a4 := Tryz.isAgg4
  z4 := Tryz.sizeOf4
  v4 := Tryz.zeroValue4
  t5 := Tryz.underlying5
  a5 := Tryz.isAgg5
  z5 := Tryz.sizeOf5
  v5 := Tryz.zeroValue5
  t9 := Tryz.underlying9
  a9 := Tryz.isAgg9
  z9 := Tryz.sizeOf9
  v9 := Tryz.zeroValue9
  t20 := Tryz.underlying20
  a20 := Tryz.isAgg20
  z20 := Tryz.sizeOf20
  v20 := Tryz.zeroValue20
  t37 := Tryz.underlying62
  a37 := Tryz.isAgg62
  z37 := Tryz.sizeOf62
  v37 := Tryz.zeroValue62
  t46 := Tryz.underlying163
  a46 := Tryz.isAgg163
  z46 := Tryz.sizeOf163
  v46 := Tryz.zeroValue163
  t51 := Tryz.underlying161
  a51 := Tryz.isAgg161
  z51 := Tryz.sizeOf161
  v51 := Tryz.zeroValue161
  t53 := Tryz.underlying147
  a53 := Tryz.isAgg147
  z53 := Tryz.sizeOf147
  v53 := Tryz.zeroValue147
  t171 := Tryz.underlying146
  a171 := Tryz.isAgg146
  z171 := Tryz.sizeOf146
  v171 := Tryz.zeroValue146
  t173 := Tryz.underlying150
  a173 := Tryz.isAgg150
  z173 := Tryz.sizeOf150
  v173 := Tryz.zeroValue150
  t212 := Tryz.underlying160
  a212 := Tryz.isAgg160
  z212 := Tryz.sizeOf160
  v212 := Tryz.zeroValue160
  t213 := Tryz.underlying162
  a213 := Tryz.isAgg162
  z213 := Tryz.sizeOf162
  t232 := Tryz.underlying176
  a232 := Tryz.isAgg176
  z232 := Tryz.sizeOf176
  v232 := Tryz.zeroValue176
  t233 := Tryz.underlying177
  a233 := Tryz.isAgg177
  z233 := Tryz.sizeOf177
  v233 := Tryz.zeroValue177
  g17 := by kernel_rfl
  g18 := by kernel_rfl
  g19 := by kernel_rfl
  i0 := by kernel_rfl
  i2 := by kernel_rfl
  i3 := by kernel_rfl
  i4 := by kernel_rfl
  i5 := by kernel_rfl
  i9 := by kernel_rfl
  i20 := by kernel_rfl
  i37 := by kernel_rfl
  i46 := by kernel_rfl
  i51 := by kernel_rfl
  i53 := by kernel_rfl
  i171 := by kernel_rfl
  i173 := by kernel_rfl
  i212 := by kernel_rfl
  i232 := by kernel_rfl
  i233 := by kernel_rfl
  m17 := by kernel_rfl
  m18 := by kernel_rfl
  m19 := by kernel_rfl }
open Go.RowKit Go.Sort Go.Lib in
theorem Tryz.internal_strconv_FormatInt_10 (n : Int) (h0 : -9223372036854775808 ≤ n) (h1 : n ≤ 9223372036854775807) (w : World) (htab : Lib.TabIs Tryz.prog w "internal/strconv.uint64pow10" .u64 Lib.pow10Tab) :
    Calls Tryz.prog 123 #[.int .i64 n, .int .i64 10] w fun e w' => e = .returned (.string ⟨(Lib.itoa n).toArray⟩) ∧ ∃ k os, w' = grow (w.drewN k) os := Any.internal_strconv_FormatInt_10 Tryz.laysM246 n h0 h1 w htab
def Tryz.lays246_ren : Go.Shelf.Ren := ⟨fun | 246 => 123 | 283 => 127 | 284 => 128 | 285 => 129 | 286 => 130 | 129 => 137 | 317 => 136 | 318 => 138 | 319 => 139 | 320 => 140 | 337 => 144 | 338 => 145 | n => n, fun | 2 => 2 | 3 => 3 | 9 => 9 | 4 => 4 | 171 => 146 | 0 => 0 | 53 => 147 | 37 => 62 | 5 => 5 | 173 => 150 | 212 => 160 | 51 => 161 | 20 => 20 | 213 => 162 | 46 => 163 | 232 => 176 | 233 => 177 | n => n, fun | 17 => 1 | 18 => 4 | 19 => 5 | n => n⟩
theorem Tryz.lays246 : Go.Proofs.Lays.n246 Tryz.prog Tryz.lays246_ren := {
  mixed := by kernel_rfl
  f129 := Tryz.func137.trans (congrArg some (by kernel_rfl))
  f246 := Tryz.func123.trans (congrArg some (by kernel_rfl))
  f283 := Tryz.func127.trans (congrArg some (by kernel_rfl))
  f284 := Tryz.func128.trans (congrArg some (by kernel_rfl))
  f285 := Tryz.func129.trans (congrArg some (by kernel_rfl))
  f286 := Tryz.func130.trans (congrArg some (by kernel_rfl))
  f317 := Tryz.func136.trans (congrArg some (by kernel_rfl))
  f318 := Tryz.func138.trans (congrArg some (by kernel_rfl))
  f319 := Tryz.func139.trans (congrArg some (by kernel_rfl))
  f320 := Tryz.func140.trans (congrArg some (by kernel_rfl))
  f337 := Tryz.func144.trans (congrArg some (by kernel_rfl))
  f338 := Tryz.func145.trans (congrArg some (by kernel_rfl))
  t0 := Tryz.underlying0
  a0 := Tryz.isAgg0
  z0 := Tryz.sizeOf0
  v0 := Tryz.zeroValue0
  t2 := Tryz.underlying2
  a2 := Tryz.isAgg2
  z2 := Tryz.sizeOf2
  v2 := Tryz.zeroValue2
  t3 := Tryz.underlying3
  a3 := Tryz.isAgg3
  z3 := Tryz.sizeOf3
  v3 := Tryz.zeroValue3
  t4 := Tryz.underlying4
  a4 := Tryz.isAgg4
  z4 := Tryz.sizeOf4
  v4 := Tryz.zeroValue4
  t5 := Tryz.underlying5
  a5 := Tryz.isAgg5
  z5 := Tryz.sizeOf5
  v5 := Tryz.zeroValue5
  t9 := Tryz.underlying9
  a9 := Tryz.isAgg9
  z9 := Tryz.sizeOf9
  v9 := Tryz.zeroValue9
  t20 := Tryz.underlying20
  a20 := Tryz.isAgg20
  z20 := Tryz.sizeOf20
  v20 := Tryz.zeroValue20
  t37 := Tryz.underlying62
  a37 := Tryz.isAgg62
  z37 := Tryz.sizeOf62
  v37 := Tryz.zeroValue62
  t46 := Tryz.underlying163
  a46 := Tryz.isAgg163
  z46 := Tryz.sizeOf163
  v46 := Tryz.zeroValue163
  t51 := Tryz.underlying161
  a51 := Tryz.isAgg161
  z51 := Tryz.sizeOf161
  v51 := Tryz.zeroValue161
  t53 := Tryz.underlying147
  a53 := Tryz.isAgg147
  z53 := Tryz.sizeOf147
  v53 := Tryz.zeroValue147
  t171 := Tryz.underlying146
  a171 := Tryz.isAgg146
  z171 := Tryz.sizeOf146
  v171 := Tryz.zeroValue146
  t173 := Tryz.underlying150
  a173 := Tryz.isAgg150
  z173 := Tryz.sizeOf150
  v173 := Tryz.zeroValue150
  t212 := Tryz.underlying160
  a212 := Tryz.isAgg160
  z212 := Tryz.sizeOf160
  v212 := Tryz.zeroValue160
  t213 := Tryz.underlying162
  a213 := Tryz.isAgg162
  z213 := Tryz.sizeOf162
  t232 := Tryz.underlying176
  a232 := Tryz.isAgg176
  z232 := Tryz.sizeOf176
  v232 := Tryz.zeroValue176
  t233 := Tryz.underlying177
  a233 := Tryz.isAgg177
  z233 := Tryz.sizeOf177
  v233 := Tryz.zeroValue177
  g17 := by kernel_rfl
  g18 := by kernel_rfl
  g19 := by kernel_rfl }
open Go.RowKit Go.Sort Go.Lib in
theorem Tryz.internal_strconv_FormatInt_10_small (i : Nat) (hi : i < 100) (w : World) :
    Calls Tryz.prog 123 #[.int .i64 i, .int .i64 10] w fun e w' => e = .returned (.string ⟨(Lib.decDigits i).toArray⟩) ∧ w' = w := Any.internal_strconv_FormatInt_10_small Tryz.lays246 i hi w
def Tryz.laysM243_ren : Go.Shelf.Ren := ⟨fun | 243 => 112 | 246 => 123 | 283 => 127 | 284 => 128 | 285 => 129 | 286 => 130 | 129 => 137 | 317 => 136 | 318 => 138 | 319 => 139 | 320 => 140 | 337 => 144 | 338 => 145 | n => n, fun | 3 => 3 | 9 => 9 | 2 => 2 | 4 => 4 | 171 => 146 | 0 => 0 | 53 => 147 | 37 => 62 | 5 => 5 | 173 => 150 | 212 => 160 | 51 => 161 | 20 => 20 | 213 => 162 | 46 => 163 | 232 => 176 | 233 => 177 | n => n, fun | 17 => 1 | 18 => 4 | 19 => 5 | n => n⟩
theorem Tryz.laysM243 : Go.Proofs.LaysM.n243 Tryz.prog Tryz.laysM243_ren := {
  mixed := by kernel_rfl
  f129 := Tryz.func137.trans (congrArg some (by kernel_rfl))
  f243 := Tryz.func112.trans (congrArg some (by kernel_rfl))
  f246 := Tryz.func123.trans (congrArg some (by kernel_rfl))
  f283 := Tryz.func127.trans (congrArg some (by kernel_rfl))
  f284 := Tryz.func128.trans (congrArg some (by kernel_rfl))
  f285 := Tryz.func129.trans (congrArg some (by kernel_rfl))
  f286 := Tryz.func130.trans (congrArg some (by kernel_rfl))
  f317 := Tryz.func136.trans (congrArg some (by kernel_rfl))
  f318 := Tryz.func138.trans (congrArg some (by kernel_rfl))
  f319 := Tryz.func139.trans (congrArg some (by kernel_rfl))
  f320 := Tryz.func140.trans (congrArg some (by kernel_rfl))
  f337 := Tryz.func144.trans (congrArg some (by kernel_rfl))
  f338 := Tryz.func145.trans (congrArg some (by kernel_rfl))
  t0 := Tryz.underlying0
  a0 := Tryz.isAgg0
  z0 := Tryz.sizeOf0
  v0 := Tryz.zeroValue0
  t2 := Tryz.underlying2
  a2 := Tryz.isAgg2
  z2 := Tryz.sizeOf2
  v2 := Tryz.zeroValue2
  t3 := Tryz.underlying3
  a3 := Tryz.isAgg3
  z3 := Tryz.sizeOf3
  v3 := Tryz.zeroValue3
  t4 := Tryz.underlying4
  a4 := Tryz.isAgg4
  z4 := Tryz.sizeOf4
  v4 := Tryz.zeroValue4
  t5 := Tryz.underlying5
  a5 := Tryz.isAgg5
  z5 := Tryz.sizeOf5
  v5 := Tryz.zeroValue5
  t9 := Tryz.underlying9
  a9 := Tryz.isAgg9
  z9 := Tryz.sizeOf9
  v9 := Tryz.zeroValue9
  t20 := Tryz.underlying20
  a20 := Tryz.isAgg20
  z20 := Tryz.sizeOf20
  v20 := Tryz.zeroValue20
  t37 := Tryz.underlying62
  a37 := Tryz.isAgg62
  z37 := Tryz.sizeOf62
  v37 := Tryz.zeroValue62
  t46 := Tryz.underlying163
  a46 := Tryz.isAgg163
  z46 := Tryz.sizeOf163
  v46 := Tryz.zeroValue163
  t51 := Tryz.underlying161
  a51 := Tryz.isAgg161
  z51 := Tryz.sizeOf161
  v51 := Tryz.zeroValue161
  t53 := Tryz.underlying147
  a53 := Tryz.isAgg147
  z53 := Tryz.sizeOf147
  v53 := Tryz.zeroValue147
  t171 := Tryz.underlying146
  a171 := Tryz.isAgg146
  z171 := Tryz.sizeOf146
  v171 := Tryz.zeroValue146
  t173 := Tryz.underlying150
  a173 := Tryz.isAgg150
  z173 := Tryz.sizeOf150
  v173 := Tryz.zeroValue150
  t212 := Tryz.underlying160
  a212 := Tryz.isAgg160
  z212 := Tryz.sizeOf160
  v212 := Tryz.zeroValue160
  t213 := Tryz.underlying162
  a213 := Tryz.isAgg162
  z213 := Tryz.sizeOf162
  t232 := Tryz.underlying176
  a232 := Tryz.isAgg176
  z232 := Tryz.sizeOf176
  v232 := Tryz.zeroValue176
  t233 := Tryz.underlying177
  a233 := Tryz.isAgg177
  z233 := Tryz.sizeOf177
  v233 := Tryz.zeroValue177
  g17 := by kernel_rfl
  g18 := by kernel_rfl
  g19 := by kernel_rfl
  i0 := by kernel_rfl
  i2 := by kernel_rfl
  i3 := by kernel_rfl
  i4 := by kernel_rfl
  i5 := by kernel_rfl
  i9 := by kernel_rfl
  i20 := by kernel_rfl
  i37 := by kernel_rfl
  i46 := by kernel_rfl
  i51 := by kernel_rfl
  i53 := by kernel_rfl
  i171 := by kernel_rfl
  i173 := by kernel_rfl
  i212 := by kernel_rfl
  i232 := by kernel_rfl
  i233 := by kernel_rfl
  m17 := by kernel_rfl
  m18 := by kernel_rfl
  m19 := by kernel_rfl }
open Go.RowKit Go.Sort Go.Lib in
theorem Tryz.internal_strconv_Itoa (n : Int) (h0 : -9223372036854775808 ≤ n) (h1 : n ≤ 9223372036854775807) (w : World) (htab : Lib.TabIs Tryz.prog w "internal/strconv.uint64pow10" .u64 Lib.pow10Tab) :
    Calls Tryz.prog 112 #[.int .i64 n] w fun e w' => e = .returned (.string ⟨(Lib.itoa n).toArray⟩) ∧ ∃ k os, w' = grow (w.drewN k) os := Any.internal_strconv_Itoa Tryz.laysM243 n h0 h1 w htab
def Tryz.lays243_ren : Go.Shelf.Ren := ⟨fun | 243 => 112 | 246 => 123 | 283 => 127 | 284 => 128 | 285 => 129 | 286 => 130 | 129 => 137 | 317 => 136 | 318 => 138 | 319 => 139 | 320 => 140 | 337 => 144 | 338 => 145 | n => n, fun | 3 => 3 | 9 => 9 | 2 => 2 | 4 => 4 | 171 => 146 | 0 => 0 | 53 => 147 | 37 => 62 | 5 => 5 | 173 => 150 | 212 => 160 | 51 => 161 | 20 => 20 | 213 => 162 | 46 => 163 | 232 => 176 | 233 => 177 | n => n, fun | 17 => 1 | 18 => 4 | 19 => 5 | n => n⟩
theorem Tryz.lays243 : Go.Proofs.Lays.n243 Tryz.prog Tryz.lays243_ren := {
  mixed := by kernel_rfl
  f129 := Tryz.func137.trans (congrArg some (by kernel_rfl))
  f243 := Tryz.func112.trans (congrArg some (by kernel_rfl))
  f246 := Tryz.func123.trans (congrArg some (by kernel_rfl))
  f283 := Tryz.func127.trans (congrArg some (by kernel_rfl))
  f284 := Tryz.func128.trans (congrArg some (by kernel_rfl))
  f285 := Tryz.func129.trans (congrArg some (by kernel_rfl))
  f286 := Tryz.func130.trans (congrArg some (by kernel_rfl))
  f317 := Tryz.func136.trans (congrArg some (by kernel_rfl))
  f318 := Tryz.func138.trans (congrArg some (by kernel_rfl))
  f319 := Tryz.func139.trans (congrArg some (by kernel_rfl))
  f320 := Tryz.func140.trans (congrArg some (by kernel_rfl))
  f337 := Tryz.func144.trans (congrArg some (by kernel_rfl))
  f338 := Tryz.func145.trans (congrArg some (by kernel_rfl))
  t0 := Tryz.underlying0
  a0 := Tryz.isAgg0
  z0 := Tryz.sizeOf0
  v0 := Tryz.zeroValue0
  t2 := Tryz.underlying2
  a2 := Tryz.isAgg2
  z2 := Tryz.sizeOf2
  v2 := Tryz.zeroValue2
  t3 := Tryz.underlying3
  a3 := Tryz.isAgg3
  z3 := Tryz.sizeOf3
  v3 := Tryz.zeroValue3
  t4 := Tryz.underlying4
  a4 := Tryz.isAgg4
  z4 := Tryz.sizeOf4
  v4 := Tryz.zeroValue4
  t5 := Tryz.underlying5
  a5 := Tryz.isAgg5
  z5 := Tryz.sizeOf5
  v5 := Tryz.zeroValue5
  t9 := Tryz.underlying9
  a9 := Tryz.isAgg9
  z9 := Tryz.sizeOf9
  v9 := Tryz.zeroValue9
  t20 := Tryz.underlying20
  a20 := Tryz.isAgg20
  z20 := Tryz.sizeOf20
  v20 := Tryz.zeroValue20
  t37 := Tryz.underlying62
  a37 := Tryz.isAgg62
  z37 := Tryz.sizeOf62
  v37 := Tryz.zeroValue62
  t46 := Tryz.underlying163
  a46 := Tryz.isAgg163
  z46 := Tryz.sizeOf163
  v46 := Tryz.zeroValue163
  t51 := Tryz.underlying161
  a51 := Tryz.isAgg161
  z51 := Tryz.sizeOf161
  v51 := Tryz.zeroValue161
  t53 := Tryz.underlying147
  a53 := Tryz.isAgg147
  z53 := Tryz.sizeOf147
  v53 := Tryz.zeroValue147
  t171 := Tryz.underlying146
  a171 := Tryz.isAgg146
  z171 := Tryz.sizeOf146
  v171 := Tryz.zeroValue146
  t173 := Tryz.underlying150
  a173 := Tryz.isAgg150
  z173 := Tryz.sizeOf150
  v173 := Tryz.zeroValue150
  t212 := Tryz.underlying160
  a212 := Tryz.isAgg160
  z212 := Tryz.sizeOf160
  v212 := Tryz.zeroValue160
  t213 := Tryz.underlying162
  a213 := Tryz.isAgg162
  z213 := Tryz.sizeOf162
  t232 := Tryz.underlying176
  a232 := Tryz.isAgg176
  z232 := Tryz.sizeOf176
  v232 := Tryz.zeroValue176
  t233 := Tryz.underlying177
  a233 := Tryz.isAgg177
  z233 := Tryz.sizeOf177
  v233 := Tryz.zeroValue177
  g17 := by kernel_rfl
  g18 := by kernel_rfl
  g19 := by kernel_rfl }
open Go.RowKit Go.Sort Go.Lib in
theorem Tryz.internal_strconv_Itoa_small (i : Nat) (hi : i < 100) (w : World) :
    Calls Tryz.prog 112 #[.int .i64 i] w fun e w' => e = .returned (.string ⟨(Lib.decDigits i).toArray⟩) ∧ w' = w := Any.internal_strconv_Itoa_small Tryz.lays243 i hi w
def Tryz.laysM171_ren : Go.Shelf.Ren := ⟨fun | 171 => 88 | 243 => 112 | 246 => 123 | 283 => 127 | 284 => 128 | 285 => 129 | 286 => 130 | 129 => 137 | 317 => 136 | 318 => 138 | 319 => 139 | 320 => 140 | 337 => 144 | 338 => 145 | n => n, fun | 3 => 3 | 9 => 9 | 2 => 2 | 4 => 4 | 171 => 146 | 0 => 0 | 53 => 147 | 37 => 62 | 5 => 5 | 173 => 150 | 212 => 160 | 51 => 161 | 20 => 20 | 213 => 162 | 46 => 163 | 232 => 176 | 233 => 177 | n => n, fun | 17 => 1 | 18 => 4 | 19 => 5 | n => n⟩
theorem Tryz.laysM171 : Go.Proofs.LaysM.n171 Tryz.prog Tryz.laysM171_ren := {
  mixed := by kernel_rfl
  f129 := Tryz.func137.trans (congrArg some (by kernel_rfl))
  f171 := Tryz.func88.trans (congrArg some (by kernel_rfl))
  f243 := Tryz.func112.trans (congrArg some (by kernel_rfl))
  f246 := Tryz.func123.trans (congrArg some (by kernel_rfl))
  f283 := Tryz.func127.trans (congrArg some (by kernel_rfl))
  f284 := Tryz.func128.trans (congrArg some (by kernel_rfl))
  f285 := Tryz.func129.trans (congrArg some (by kernel_rfl))
  f286 := Tryz.func130.trans (congrArg some (by kernel_rfl))
  f317 := Tryz.func136.trans (congrArg some (by kernel_rfl))
  f318 := Tryz.func138.trans (congrArg some (by kernel_rfl))
  f319 := Tryz.func139.trans (congrArg some (by kernel_rfl))
  f320 := Tryz.func140.trans (congrArg some (by kernel_rfl))
  f337 := Tryz.func144.trans (congrArg some (by kernel_rfl))
  f338 := Tryz.func145.trans (congrArg some (by kernel_rfl))
  t0 := Tryz.underlying0
  a0 := Tryz.isAgg0
  z0 := Tryz.sizeOf0
  v0 := Tryz.zeroValue0
  t2 := Tryz.underlying2
  a2 := Tryz.isAgg2
  z2 := Tryz.sizeOf2
  v2 := Tryz.zeroValue2
  t3 := Tryz.underlying3
  a3 := Tryz.isAgg3
  z3 := Tryz.sizeOf3
  v3 := Tryz.zeroValue3
  t4 := Tryz.underlying4
  a4 := Tryz.isAgg4
  z4 := Tryz.sizeOf4
  v4 := Tryz.zeroValue4
  t5 := Tryz.underlying5
  a5 := Tryz.isAgg5
  z5 := Tryz.sizeOf5
  v5 := Tryz.zeroValue5
  t9 := Tryz.underlying9
  a9 := Tryz.isAgg9
  z9 := Tryz.sizeOf9
  v9 := Tryz.zeroValue9
  t20 := Tryz.underlying20
  a20 := Tryz.isAgg20
  z20 := Tryz.sizeOf20
  v20 := Tryz.zeroValue20
  t37 := Tryz.underlying62
  a37 := Tryz.isAgg62
  z37 := Tryz.sizeOf62
  v37 := Tryz.zeroValue62
  t46 := Tryz.underlying163
  a46 := Tryz.isAgg163
  z46 := Tryz.sizeOf163
  v46 := Tryz.zeroValue163
  t51 := Tryz.underlying161
  a51 := Tryz.isAgg161
  z51 := Tryz.sizeOf161
  v51 := Tryz.zeroValue161
  t53 := Tryz.underlying147
  a53 := Tryz.isAgg147
  z53 := Tryz.sizeOf147
  v53 := Tryz.zeroValue147
  t171 := Tryz.underlying146
  a171 := Tryz.isAgg146
  z171 := Tryz.sizeOf146
  v171 := Tryz.zeroValue146
  t173 := Tryz.underlying150
  a173 := Tryz.isAgg150
  z173 := Tryz.sizeOf150
  v173 := Tryz.zeroValue150
  t212 := Tryz.underlying160
  a212 := Tryz.isAgg160
  z212 := Tryz.sizeOf160
  v212 := Tryz.zeroValue160
  t213 := Tryz.underlying162
  a213 := Tryz.isAgg162
  z213 := Tryz.sizeOf162
  t232 := Tryz.underlying176
  a232 := Tryz.isAgg176
  z232 := Tryz.sizeOf176
  v232 := Tryz.zeroValue176
  t233 := Tryz.underlying177
  a233 := Tryz.isAgg177
  z233 := Tryz.sizeOf177
  v233 := Tryz.zeroValue177
  g17 := by kernel_rfl
  g18 := by kernel_rfl
  g19 := by kernel_rfl
  i0 := by kernel_rfl
  i2 := by kernel_rfl
  i3 := by kernel_rfl
  i4 := by kernel_rfl
  i5 := by kernel_rfl
  i9 := by kernel_rfl
  i20 := by kernel_rfl
  i37 := by kernel_rfl
  i46 := by kernel_rfl
  i51 := by kernel_rfl
  i53 := by kernel_rfl
  i171 := by kernel_rfl
  i173 := by kernel_rfl
  i212 := by kernel_rfl
  i232 := by kernel_rfl
  i233 := by kernel_rfl
  m17 := by kernel_rfl
  m18 := by kernel_rfl
  m19 := by kernel_rfl }
open Go.RowKit Go.Sort Go.Lib in
theorem Tryz.strconv_Itoa (n : Int) (h0 : -9223372036854775808 ≤ n) (h1 : n ≤ 9223372036854775807) (w : World) (htab : Lib.TabIs Tryz.prog w "internal/strconv.uint64pow10" .u64 Lib.pow10Tab) :
    Calls Tryz.prog 88 #[.int .i64 n] w fun e w' => e = .returned (.string ⟨(Lib.itoa n).toArray⟩) ∧ ∃ k os, w' = grow (w.drewN k) os := Any.strconv_Itoa Tryz.laysM171 n h0 h1 w htab
def Tryz.lays171_ren : Go.Shelf.Ren := ⟨fun | 171 => 88 | 243 => 112 | 246 => 123 | 283 => 127 | 284 => 128 | 285 => 129 | 286 => 130 | 129 => 137 | 317 => 136 | 318 => 138 | 319 => 139 | 320 => 140 | 337 => 144 | 338 => 145 | n => n, fun | 3 => 3 | 9 => 9 | 2 => 2 | 4 => 4 | 171 => 146 | 0 => 0 | 53 => 147 | 37 => 62 | 5 => 5 | 173 => 150 | 212 => 160 | 51 => 161 | 20 => 20 | 213 => 162 | 46 => 163 | 232 => 176 | 233 => 177 | n => n, fun | 17 => 1 | 18 => 4 | 19 => 5 | n => n⟩
theorem Tryz.lays171 : Go.Proofs.Lays.n171 Tryz.prog Tryz.lays171_ren := {
  mixed := by kernel_rfl
  f129 := Tryz.func137.trans (congrArg some (by kernel_rfl))
  f171 := Tryz.func88.trans (congrArg some (by kernel_rfl))
  f243 := Tryz.func112.trans (congrArg some (by kernel_rfl))
  f246 := Tryz.func123.trans (congrArg some (by kernel_rfl))
  f283 := Tryz.func127.trans (congrArg some (by kernel_rfl))
  f284 := Tryz.func128.trans (congrArg some (by kernel_rfl))
  f285 := Tryz.func129.trans (congrArg some (by kernel_rfl))
  f286 := Tryz.func130.trans (congrArg some (by kernel_rfl))
  f317 := Tryz.func136.trans (congrArg some (by kernel_rfl))
  f318 := Tryz.func138.trans (congrArg some (by kernel_rfl))
  f319 := Tryz.func139.trans (congrArg some (by kernel_rfl))
  f320 := Tryz.func140.trans (congrArg some (by kernel_rfl))
  f337 := Tryz.func144.trans (congrArg some (by kernel_rfl))
  f338 := Tryz.func145.trans (congrArg some (by kernel_rfl))
  t0 := Tryz.underlying0
  a0 := Tryz.isAgg0
  z0 := Tryz.sizeOf0
  v0 := Tryz.zeroValue0
  t2 := Tryz.underlying2
  a2 := Tryz.isAgg2
  z2 := Tryz.sizeOf2
  v2 := Tryz.zeroValue2
  t3 := Tryz.underlying3
  a3 := Tryz.isAgg3
  z3 := Tryz.sizeOf3
  v3 := Tryz.zeroValue3
  t4 := Tryz.underlying4
  a4 := Tryz.isAgg4
  z4 := Tryz.sizeOf4
  v4 := Tryz.zeroValue4
  t5 := Tryz.underlying5
  a5 := Tryz.isAgg5
  z5 := Tryz.sizeOf5
  v5 := Tryz.zeroValue5
  t9 := Tryz.underlying9
  a9 := Tryz.isAgg9
  z9 := Tryz.sizeOf9
  v9 := Tryz.zeroValue9
  t20 := Tryz.underlying20
  a20 := Tryz.isAgg20
  z20 := Tryz.sizeOf20
  v20 := Tryz.zeroValue20
  t37 := Tryz.underlying62
  a37 := Tryz.isAgg62
  z37 := Tryz.sizeOf62
  v37 := Tryz.zeroValue62
  t46 := Tryz.underlying163
  a46 := Tryz.isAgg163
  z46 := Tryz.sizeOf163
  v46 := Tryz.zeroValue163
  t51 := Tryz.underlying161
  a51 := Tryz.isAgg161
  z51 := Tryz.sizeOf161
  v51 := Tryz.zeroValue161
  t53 := Tryz.underlying147
  a53 := Tryz.isAgg147
  z53 := Tryz.sizeOf147
  v53 := Tryz.zeroValue147
  t171 := Tryz.underlying146
  a171 := Tryz.isAgg146
  z171 := Tryz.sizeOf146
  v171 := Tryz.zeroValue146
  t173 := Tryz.underlying150
  a173 := Tryz.isAgg150
  z173 := Tryz.sizeOf150
  v173 := Tryz.zeroValue150
  t212 := Tryz.underlying160
  a212 := Tryz.isAgg160
  z212 := Tryz.sizeOf160
  v212 := Tryz.zeroValue160
  t213 := Tryz.underlying162
  a213 := Tryz.isAgg162
  z213 := Tryz.sizeOf162
  t232 := Tryz.underlying176
  a232 := Tryz.isAgg176
  z232 := Tryz.sizeOf176
  v232 := Tryz.zeroValue176
  t233 := Tryz.underlying177
  a233 := Tryz.isAgg177
  z233 := Tryz.sizeOf177
  v233 := Tryz.zeroValue177
  g17 := by kernel_rfl
  g18 := by kernel_rfl
  g19 := by kernel_rfl }
open Go.RowKit Go.Sort Go.Lib in
theorem Tryz.strconv_Itoa_small (i : Nat) (hi : i < 100) (w : World) :
    Calls Tryz.prog 88 #[.int .i64 i] w fun e w' => e = .returned (.string ⟨(Lib.decDigits i).toArray⟩) ∧ w' = w := Any.strconv_Itoa_small Tryz.lays171 i hi w
end Go.Proofs
/-
  WALK: package text: the reader: number.
-/
namespace Go.Proofs.YtdjbejlbmaiocabGreatDoor
open Go.RowKit

theorem digit_val (c : UInt8) (h : 48 ≤ c.toNat ∧ c.toNat ≤ 57) : Lib.digitVal c = some (c.toNat - 48) := by
  unfold Lib.digitVal
  simp [h.1, h.2]
theorem decFrom_dig : ∀ (l : List UInt8) (n : Nat), (∀ c ∈ l, 48 ≤ c.toNat ∧ c.toNat ≤ 57) → ∃ k : Nat, Lib.decFrom n l = some k ∧ l.foldl (fun n c => n * 10 + ((c.toNat : Int) - 48)) (n : Int) = (k : Int)
  | [], n, _ => ⟨n, by simp [Lib.decFrom], rfl⟩
  | c :: l, n, h => by
    have hc := h c (List.mem_cons_self ..)
    obtain ⟨k, h1, h2⟩ := decFrom_dig l (n * 10 + (c.toNat - 48)) fun d hd => h d (List.mem_cons_of_mem _ hd)
    refine ⟨k, ?_, ?_⟩
    · rw [Lib.decFrom, digit_val c hc]; exact h1
    · simp only [List.foldl_cons]
      rw [← h2]
      congr 1
      omega
theorem atoi_dig (l : List UInt8) (h0 : l ≠ []) (h : ∀ c ∈ l, 48 ≤ c.toNat ∧ c.toNat ≤ 57) : Lib.atoi l = some (digV l) := by
  obtain ⟨k, h1, h2⟩ := decFrom_dig l 0 h
  have hd : Lib.decNat l = some k := by
    unfold Lib.decNat
    cases l with
    | nil => exact absurd rfl h0
    | cons a l => simpa using h1
  have hv : digV l = (k : Int) := h2
  rw [hv]
  cases l with
  | nil => exact absurd rfl h0
  | cons a l =>
    have ha := h a (List.mem_cons_self ..)
    have e1 : (a == 45) = false := by
      rw [beq_eq_false_iff_ne]
      intro e
      subst e
      exact absurd ha.1 (by decide)
    have e2 : (a == 43) = false := by
      rw [beq_eq_false_iff_ne]
      intro e
      subst e
      exact absurd ha.1 (by decide)
    simp only [Lib.atoi]
    rw [e1, e2, if_neg (by simp), if_neg (by simp), hd]
    rfl
theorem digV_bound (l : List UInt8) (h4 : l.length ≤ 4) (h : ∀ c ∈ l, 48 ≤ c.toNat ∧ c.toNat ≤ 57) : 0 ≤ digV l ∧ digV l ≤ 9999 := by
  unfold digV
  match l, h4 with
  | [], _ => simp
  | [a], _ => have := h a (by simp); simp; omega
  | [a, b], _ => have := h a (by simp); have := h b (by simp); simp; omega
  | [a, b, c], _ => have := h a (by simp); have := h b (by simp); have := h c (by simp); simp; omega
  | [a, b, c, d], _ => have := h a (by simp); have := h b (by simp); have := h c (by simp); have := h d (by simp); simp; omega
theorem atoi_any (s : ByteArray) (h1 : 1 ≤ s.size ∧ s.size ≤ 4) (hd : ∀ c ∈ s.data.toList, 48 ≤ c.toNat ∧ c.toNat ≤ 57) (w : World) :
    Calls Tryz.prog 116 #[.string s] w fun e w' => e = .returned (.tuple #[.int .i64 (digV s.data.toList), .nilIface]) ∧ Below w.heap.size w w' := by
  have hne : s.data.toList ≠ [] := by
    intro e
    have : s.data.toList.length = 0 := by rw [e]; rfl
    have h2 : s.data.toList.length = s.size := Array.length_toList
    omega
  refine (Tryz.strconv_Atoi s _ (by omega) (atoi_dig _ hne hd) w).mono ?_
  rintro e w' ⟨rfl, t, rfl⟩
  exact ⟨rfl, Lib.bytesWorld_below _ _ _⟩
theorem head_ok {N R M : Nat} {en : Int} {w : World} {l : List Tok} (h : Rd N R M en w l) (hk : (headT en l).kind = 2) : (1 ≤ (headT en l).text.size ∧ (headT en l).text.size ≤ 4) ∧ ∀ c ∈ (headT en l).text.data.toList, 48 ≤ c.toNat ∧ c.toNat ≤ 57 := by
  obtain ⟨_, v, _, _, _, _, _, ht, _⟩ := h
  cases l with
  | nil => exact absurd hk (by show ¬ (0 : Int) = 2; decide)
  | cons t r => exact (ht.2 t (List.mem_cons_self ..)).2 hk
theorem kind_some {en : Int} {l : List Tok} (h : ((headT en l).kind == 2) = true) : l ≠ [] := by
  intro hl
  subst hl
  have h2 : ((0 : Int) == 2) = true := h
  simp at h2

theorem solid_minus : solid ⟨#[45]⟩ := by unfold solid; simp [go_sem]
set_option maxHeartbeats 1600000 in
set_option maxRecDepth 100000 in
theorem number_any (N R M : Nat) (en : Int) (w : World) (l : List Tok) (h : Rd N R M en w l) :
    Calls Tryz.prog 97 #[.pointer (some ⟨R, 0, none⟩)] w (PostR (numberP en l) (fun i v _ => v = .int .i64 i ∧ -9999 ≤ i ∧ i ≤ 9999) N R M en (fun k => k = R) w) := by
  have hf2 := tokF2 (headT en l)
  have hf0 := tokF0 (headT en l)
  have HB : Hid (Rd N R M en w l) := h
  obtain ⟨P, hP⟩ : ∃ P, numberP en l = P := ⟨_, rfl⟩
  have HP : Hid (numberP en l = P) := hP
  rw [hP]
  cases hm : ((headT en l).text.toList == [45])
  · have HM : Hid (((headT en l).text.toList == [45]) = false) := hm
    cases hK : ((headT en l).kind == 2)
    · have HP2 : Hid (P = (passP en false l).bind fun t r => .ok (1 * digV t.text.data.toList) r) := by show _ = _; rw [← hP]; unfold numberP; rw [hm, hK]; rfl
      clear hP h
      go_enter Tryz.func97, Tryz.ntmps97
      go_wp2_with fail
      refine (ahead_any N R M en _ l HB.out).mono ?_
      rintro e w1 ⟨rfl, hb1⟩
      have HR1 : Hid (Rd N R M en w1 l) := HB.out.below hb1
      have HF1 : Hid (Fr (fun k => k = R) w w1) := Fr.below hb1
      unfold tokA
      clear hb1
      go_wp2_with fail
      refine (ahead_any N R M en _ l HR1.out).mono ?_
      rintro e w2 ⟨rfl, hb2⟩
      have HR2 : Hid (Rd N R M en w2 l) := HR1.out.below hb2
      have HF2 : Hid (Fr (fun k => k = R) w w2) := HF1.out.trans (Fr.below hb2)
      unfold tokA
      clear hb2 hm
      go_wp2_with fail
      refine (pass_any N R M en false w2 l HR2.out (fun hb => by cases hb)).mono ?_
      intro e w3 hp
      obtain ⟨rfl, hfr⟩ := hp
      have hfr2 := HF2.out.trans hfr
      go_wp2
      exact ⟨rfl, by rw [HP2.out]; exact ⟨rfl, hfr2⟩⟩
    · have HP2 : Hid (P = (passP en true l).bind fun t r => .ok (1 * digV t.text.data.toList) r) := by show _ = _; rw [← hP]; unfold numberP; rw [hm, hK]; rfl
      have HL : Hid (l ≠ []) := kind_some hK
      obtain ⟨hd1, hd2⟩ := head_ok h (by simpa using hK)
      have HD2 : Hid (∀ c ∈ (headT en l).text.data.toList, 48 ≤ c.toNat ∧ c.toNat ≤ 57) := hd2
      have HD1 : Hid (1 ≤ (headT en l).text.size ∧ (headT en l).text.size ≤ 4) := hd1
      clear hP h hd1 hd2
      go_enter Tryz.func97, Tryz.ntmps97
      go_wp2_with fail
      refine (ahead_any N R M en _ l HB.out).mono ?_
      rintro e w1 ⟨rfl, hb1⟩
      have HR1 : Hid (Rd N R M en w1 l) := HB.out.below hb1
      have HF1 : Hid (Fr (fun k => k = R) w w1) := Fr.below hb1
      unfold tokA
      clear hb1
      go_wp2_with fail
      refine (ahead_any N R M en _ l HR1.out).mono ?_
      rintro e w2 ⟨rfl, hb2⟩
      have HR2 : Hid (Rd N R M en w2 l) := HR1.out.below hb2
      have HF2 : Hid (Fr (fun k => k = R) w w2) := HF1.out.trans (Fr.below hb2)
      unfold tokA
      clear hb2 hm
      go_wp2_with fail
      refine (pass_any N R M en true w2 l HR2.out (fun _ => HL.out)).mono ?_
      intro e w3 hp
      obtain ⟨v, rfl, rfl, hrd, hfr⟩ := hp
      have HFR : Hid (Fr (fun k => k = R) w w3) := HF2.out.trans hfr
      have HRD : Hid (Rd N R M en w3 l.tail) := hrd
      clear hfr hrd
      unfold tokA
      go_wp2_with fail
      refine (atoi_any _ HD1.out HD2.out _).mono ?_
      rintro e w4 ⟨rfl, hb4⟩
      obtain ⟨hv1, hv2⟩ := digV_bound (headT en l).text.data.toList (by have := HD1.out.2; have h2 : (headT en l).text.data.toList.length = (headT en l).text.size := Array.length_toList; omega) HD2.out
      obtain ⟨V, hV⟩ : ∃ V, digV (headT en l).text.data.toList = V := ⟨_, rfl⟩
      have HV : Hid (digV (headT en l).text.data.toList = V) := hV
      rw [hV] at hv1 hv2 ⊢
      have HR4 : Hid (Rd N R M en w4 l.tail) := HRD.out.below hb4
      have HF4 : Hid (Fr (fun k => k = R) w w4) := HFR.out.trans (Fr.below hb4)
      clear hb4 hV
      go_wp2
      go_ret
      rw [HP2.out]
      exact ⟨_, rfl, ⟨by rw [HV.out, Int.one_mul]; rfl, by rw [HV.out]; omega, by rw [HV.out]; omega⟩, HR4.out, HF4.out⟩
  · have hmin : (⟨#[45]⟩ : ByteArray).toList = [45] := by simp [go_sem]
    have HSK : Hid (skipP en ⟨#[45]⟩ l = .ok (headT en l) l.tail) := by show _ = _; unfold skipP passP; rw [hmin, hm]; rfl
    obtain ⟨q, hq⟩ : ∃ q, l.tail = q := ⟨_, rfl⟩
    have HQ : Hid (l.tail = q) := hq
    have hg2 := tokF2 (headT en q)
    have hg0 := tokF0 (headT en q)
    have HOKQ : Hid (∀ t ∈ q, TokOk t) := by
      obtain ⟨_, v, _, _, _, _, _, ht, _⟩ := h
      intro t htq
      rw [← hq] at htq
      exact ht.2 t (List.mem_of_mem_tail htq)
    have HPQ : Hid (P = (passP en (((headT en q).kind == 2) && (!((headT en q).text.toList == [48]))) q).bind fun t r => .ok (-1 * digV t.text.data.toList) r) := by
      show _ = _; rw [← hP]; unfold numberP; rw [hm, if_pos rfl, HSK.out, ← hq]; rfl
    clear hP h hq hmin
    go_enter Tryz.func97, Tryz.ntmps97
    go_wp2_with fail
    refine (ahead_any N R M en _ l HB.out).mono ?_
    rintro e w1 ⟨rfl, hb1⟩
    have HR1 : Hid (Rd N R M en w1 l) := HB.out.below hb1
    have HF1 : Hid (Fr (fun k => k = R) w w1) := Fr.below hb1
    unfold tokA
    clear hb1
    go_wp2_with fail
    refine (rskip_any N R M en ⟨#[45]⟩ solid_minus w1 l HR1.out).mono ?_
    intro e w2 hp
    rw [HSK.out] at hp
    obtain ⟨v, rfl, rfl, hrd, hfr⟩ := hp
    have HR2 : Hid (Rd N R M en w2 q) := by rw [← HQ.out]; exact hrd
    have HF2 : Hid (Fr (fun k => k = R) w w2) := HF1.out.trans hfr
    clear hrd hfr hm hf0 hf2
    cases hK : ((headT en q).kind == 2)
    · have HP2 : Hid (P = (passP en false q).bind fun t r => .ok (-1 * digV t.text.data.toList) r) := by show _ = _; rw [HPQ.out, hK]; rfl
      go_wp2_with fail
      refine (ahead_any N R M en _ q HR2.out).mono ?_
      rintro e w3 ⟨rfl, hb3⟩
      have HR3 : Hid (Rd N R M en w3 q) := HR2.out.below hb3
      have HF3 : Hid (Fr (fun k => k = R) w w3) := HF2.out.trans (Fr.below hb3)
      unfold tokA
      clear hb3
      go_wp2_with fail
      refine (pass_any N R M en false w3 q HR3.out (fun hb => by cases hb)).mono ?_
      intro e w4 hp
      obtain ⟨rfl, hfr⟩ := hp
      have hfr2 := HF3.out.trans hfr
      go_wp2
      exact ⟨rfl, by rw [HP2.out]; exact ⟨rfl, hfr2⟩⟩
    · have HL : Hid (q ≠ []) := kind_some hK
      have hd : (1 ≤ (headT en q).text.size ∧ (headT en q).text.size ≤ 4) ∧ ∀ c ∈ (headT en q).text.data.toList, 48 ≤ c.toNat ∧ c.toNat ≤ 57 := head_ok HR2.out (by simpa using hK)
      have HD2 : Hid (∀ c ∈ (headT en q).text.data.toList, 48 ≤ c.toNat ∧ c.toNat ≤ 57) := hd.2
      have HD1 : Hid (1 ≤ (headT en q).text.size ∧ (headT en q).text.size ≤ 4) := hd.1
      clear hd
      cases hz : ((headT en q).text.toList == [48])
      rotate_left
      · have HP2 : Hid (P = (passP en false q).bind fun t r => .ok (-1 * digV t.text.data.toList) r) := by show _ = _; rw [HPQ.out, hK, hz]; rfl
        go_wp2_with fail
        refine (ahead_any N R M en _ q HR2.out).mono ?_
        rintro e w3 ⟨rfl, hb3⟩
        have HR3 : Hid (Rd N R M en w3 q) := HR2.out.below hb3
        have HF3 : Hid (Fr (fun k => k = R) w w3) := HF2.out.trans (Fr.below hb3)
        unfold tokA
        clear hb3
        go_wp2_with fail
        refine (ahead_any N R M en _ q HR3.out).mono ?_
        rintro e w4 ⟨rfl, hb4⟩
        have HR4 : Hid (Rd N R M en w4 q) := HR3.out.below hb4
        have HF4 : Hid (Fr (fun k => k = R) w w4) := HF3.out.trans (Fr.below hb4)
        unfold tokA
        clear hb4
        go_wp2_with fail
        refine (pass_any N R M en false w4 q HR4.out (fun hb => by cases hb)).mono ?_
        intro e w5 hp
        obtain ⟨rfl, hfr⟩ := hp
        have hfr2 := HF4.out.trans hfr
        go_wp2
        exact ⟨rfl, by rw [HP2.out]; exact ⟨rfl, hfr2⟩⟩
      · have HP2 : Hid (P = (passP en true q).bind fun t r => .ok (-1 * digV t.text.data.toList) r) := by show _ = _; rw [HPQ.out, hK, hz]; rfl
        go_wp2_with fail
        refine (ahead_any N R M en _ q HR2.out).mono ?_
        rintro e w3 ⟨rfl, hb3⟩
        have HR3 : Hid (Rd N R M en w3 q) := HR2.out.below hb3
        have HF3 : Hid (Fr (fun k => k = R) w w3) := HF2.out.trans (Fr.below hb3)
        unfold tokA
        clear hb3
        go_wp2_with fail
        refine (ahead_any N R M en _ q HR3.out).mono ?_
        rintro e w4 ⟨rfl, hb4⟩
        have HR4 : Hid (Rd N R M en w4 q) := HR3.out.below hb4
        have HF4 : Hid (Fr (fun k => k = R) w w4) := HF3.out.trans (Fr.below hb4)
        unfold tokA
        clear hb4
        go_wp2_with fail
        refine (pass_any N R M en true w4 q HR4.out (fun _ => HL.out)).mono ?_
        intro e w5 hp
        obtain ⟨v, rfl, rfl, hrd, hfr⟩ := hp
        have HFR : Hid (Fr (fun k => k = R) w w5) := HF4.out.trans hfr
        have HRD : Hid (Rd N R M en w5 q.tail) := hrd
        clear hfr hrd
        unfold tokA
        go_wp2_with fail
        refine (atoi_any _ HD1.out HD2.out _).mono ?_
        rintro e w6 ⟨rfl, hb6⟩
        obtain ⟨hv1, hv2⟩ := digV_bound (headT en q).text.data.toList (by have := HD1.out.2; have h2 : (headT en q).text.data.toList.length = (headT en q).text.size := Array.length_toList; omega) HD2.out
        obtain ⟨V, hV⟩ : ∃ V, digV (headT en q).text.data.toList = V := ⟨_, rfl⟩
        have HV : Hid (digV (headT en q).text.data.toList = V) := hV
        rw [hV] at hv1 hv2 ⊢
        have HR6 : Hid (Rd N R M en w6 q.tail) := HRD.out.below hb6
        have HF6 : Hid (Fr (fun k => k = R) w w6) := HFR.out.trans (Fr.below hb6)
        clear hb6 hV
        go_wp2
        go_ret
        rw [HP2.out]
        exact ⟨_, rfl, ⟨by rw [HV.out]; first | rfl | (rw [Int.neg_one_mul]; rfl), by rw [HV.out]; omega, by rw [HV.out]; omega⟩, HR6.out, HF6.out⟩
end Go.Proofs.YtdjbejlbmaiocabGreatDoor
/-
  The map of names; WALK: package text: the reader: name.
-/
namespace Go.Proofs.YtdjbejlbmaiocabGreatDoor
open Go.RowKit Go.Maps

def nmD : List ByteArray → DataW Unit := fun l => (l.zipIdx).foldl (fun D p => D.put (.string p.1.data.toList) (.lit (.int .i64 (p.2 : Int)))) (.map [])
theorem nmD_next (l : List ByteArray) (n : ByteArray) : nmD (l ++ [n]) = (nmD l).put (.string n.data.toList) (.lit (.int .i64 (l.length : Int))) := by
  unfold nmD
  rw [List.zipIdx_append, List.foldl_append]
  simp
theorem rev_ind {α : Type} {P : List α → Prop} (h0 : P []) (h1 : ∀ l a, P l → P (l ++ [a])) : ∀ l, P l := by
  intro l
  rw [← List.reverse_reverse l]
  generalize l.reverse = m
  induction m with
  | nil => exact h0
  | cons a m ih => rw [List.reverse_cons]; exact h1 _ _ ih
theorem nmD_map (l : List ByteArray) : IsMap (nmD l) := by
  induction l using rev_ind with
  | h0 => exact isMap_empty
  | h1 l n ih => rw [nmD_next]; exact ih.put _ _
theorem nmD_look (s : ByteArray) (l : List ByteArray) : Maps.has (nmD l) (.string s.data.toList) = (nameAt l s).2 ∧ (nmD l).atKey (.string s.data.toList) (.lit (.int .i64 0)) = .lit (.int .i64 (nameAt l s).1) := by
  induction l using rev_ind with
  | h0 => exact ⟨rfl, rfl⟩
  | h1 l n ih =>
    rw [nmD_next, nameAt_next]
    by_cases h : n.data.toList = s.data.toList
    · rw [if_pos h, h]
      exact ⟨has_put_same (k := .string s.data.toList) (nmD_map l) (show WideAt.IsKeyLit (.string s.data.toList) from trivial) _, atKey_put_same (k := .string s.data.toList) (nmD_map l) (show WideAt.IsKeyLit (.string s.data.toList) from trivial) _ _⟩
    · rw [if_neg h, has_put_other (fun e => h (Lit.string.inj e).symm), atKey_put_other (fun e => h (Lit.string.inj e).symm)]
      exact ih
/-- The names that have come, in their map. -/
def NmS (w : World) (M : Nat) (l : List ByteArray) : Prop := w.ownsMap Tryz.prog 9 (plainElem Tryz.prog 3) M l.length (nmD l)
theorem NmS.old {w w' : World} {M : Nat} {l : List ByteArray} (h : NmS w M l) (hb : w'.heap[M]? = w.heap[M]?) : NmS w' M l := by
  obtain ⟨es, clock, hm, F, hs, hd⟩ := h
  exact ⟨es, clock, hb.trans hm, F, hs, hd⟩
theorem NmS.lt {w : World} {M : Nat} {l : List ByteArray} (h : NmS w M l) : M < w.heap.size := by
  obtain ⟨es, clock, hm, _⟩ := h
  exact (Array.getElem?_eq_some_iff.1 hm).1
theorem Tryz.underNames : Tryz.prog.underlying 86 = some (.map 9 3) := by kernel_rfl
theorem Tryz.strKeyed : Keyed Tryz.prog 9 := string_keyed Tryz.underlying9
theorem Tryz.intZero (w : World) : (zeroValue 3).run Tryz.prog w = .ok (.int .i64 0) w := by kernel_rfl
theorem look_names (w : World) (M : Nat) (l : List ByteArray) (s : ByteArray) (hs : s.size ≤ maxLen) (h : NmS w M l) :
    Sem.run Tryz.prog (Instr.lookup 86 (.map (some M)) (.string s) true) w = .ok (.tuple #[.int .i64 (nameAt l s).1, .bool (nameAt l s).2]) w := by
  obtain ⟨v, ps, hrun, hv⟩ := h.look_ok Tryz.strKeyed Tryz.underNames (Tryz.intZero w) (plainElem_int (H := Unit) Tryz.underlying3 (by decide)) (WideMaps.keyOf_string_mk Tryz.underlying9 hs)
  obtain ⟨a, rfl, ha, _⟩ := plainElem_int_inv Tryz.underlying3 hv
  obtain ⟨h1, h2⟩ := nmD_look s l
  rw [h2] at ha
  have h3 := congrArg Prod.fst ha
  have h4 : (nameAt l s).1 = a := by cases h3; rfl
  rw [hrun, h1, h4]

theorem held_call9 {w2 Y w3 : World} {A : Prop} (h : Below w2.heap.size w2 Y ∧ A) (hb : Below Y.heap.size Y w3) : Below w2.heap.size w2 w3 := h.1.trans (hb.mono h.1.size)
set_option maxHeartbeats 1600000 in
set_option maxRecDepth 100000 in
theorem name_any (N R M : Nat) (en : Int) (names : List ByteArray) (w : World) (l : List Tok) (h : Rd N R M en w l) (hn : NmS w M names) (hne : ∀ n ∈ names, n.data.toList ≠ []) :
    Calls Tryz.prog 101 #[.pointer (some ⟨R, 0, none⟩)] w (PostR (nameP en names l) (fun i v _ => v = .int .i64 i) N R M en (fun k => k = R) w) := by
  have hf2 := tokF2 (headT en l)
  have HB : Hid (Rd N R M en w l) := h
  have HSZ : Hid ((headT en l).text.size ≤ maxLen) := head_size h
  have HML : Hid (M < w.heap.size) := hn.lt
  have HNM : Hid (NmS w M names) := hn
  obtain ⟨ri, hri⟩ : ∃ ri, (nameAt names (headT en l).text).1 = ri := ⟨_, rfl⟩
  obtain ⟨rb, hrb⟩ : ∃ rb, (nameAt names (headT en l).text).2 = rb := ⟨_, rfl⟩
  obtain ⟨nb, hnb⟩ : ∃ nb, nameB (headT en l).text = nb := ⟨_, rfl⟩
  have HNB : Hid (nameB (headT en l).text = nb) := hnb
  have HLK : Hid (∀ Y : World, Below w.heap.size w Y → Sem.run Tryz.prog (Instr.lookup 86 (.map (some M)) (.string (headT en l).text) true) Y = .ok (.tuple #[.int .i64 ri, .bool rb]) Y) := by
    intro Y hY
    rw [look_names Y M names _ HSZ.out (HNM.out.old (hY.block M HML.out)), hri, hrb]
  have HL : Hid (rb = true → l ≠ []) := by
    intro hb hl
    subst hl
    have h2 : (nameAt names ByteArray.empty).2 = rb := hrb
    rw [nameAt_empty names hne, hb] at h2
    cases h2
  obtain ⟨P, hP⟩ : ∃ P, nameP en names l = P := ⟨_, rfl⟩
  have HP : Hid (P = if rb then (passP en true l).bind fun _ r => .ok ri r else if nb then .bad (headT en l).place 5 else .bad (headT en l).place 1) := by
    show _ = _; rw [← hP]; unfold nameP; rw [hri, hrb, hnb]
  rw [hP]
  obtain ⟨_, v, hR, _⟩ := h
  have c2 : w.cell? ⟨R, 2, none⟩ = some (.map (some M)) := by rw [Lib.cell_of_heap hR]; rfl
  have hRl : R < w.heap.size := (Array.getElem?_eq_some_iff.1 hR).1
  have HAH : Hid (∀ Y : World, Below w.heap.size w Y → Calls Tryz.prog 70 #[.pointer (some ⟨R, 0, none⟩)] Y fun e w' => e = .returned (.agg #[.int .i64 (headT en l).kind, .int .i64 (headT en l).place, .string (headT en l).text]) ∧ Below Y.heap.size Y w') := fun Y hY => ahead_any N R M en Y l (HB.out.below hY)
  have hlk0 := HLK.out _ (Below.refl _ _).drew
  clear hri hrb hnb hP hR hn hne
  go_enter Tryz.func101, Tryz.ntmps101
  go_wp2_with fail
  go_region_held3 (fun w' => Below w.heap.size w w' ∧ w'.cell? ⟨R, 2, none⟩ = some (.map (some M)) ∧ Sem.run Tryz.prog (Instr.lookup 86 (.map (some M)) (.string (headT en l).text) true) w' = .ok (.tuple #[.int .i64 ri, .bool rb]) w')
    ((refine (fun (hB : Below w.heap.size w _) => ⟨hB, (hB.cell (p := ⟨R, 2, none⟩) hRl).trans c2, HLK.out _ hB⟩ : Below w.heap.size w _ → _) ?_; first | exact (Below.refl _ _).drew | exact hB1 | exact (show Below w.heap.size w _ ∧ _ ∧ _ by assumption).1))
    (first
      | (go_at_call 70; refine (HAH.out _ (show Below w.heap.size w _ ∧ _ ∧ _ by assumption).1).mono ?_; rintro e w1 ⟨rfl, hbq⟩; have hB1 := held_call9 (by assumption) hbq))
  have HR1 : Hid (Rd N R M en w1 l) := HB.out.below hB1
  have HF1 : Hid (Fr (fun k => k = R) w w1) := Fr.below hB1
  cases rb
  · go_wp2_with fail
    refine (ahead_any N R M en _ l HR1.out).mono ?_
    rintro e w2 ⟨rfl, hb2⟩
    have HR2 : Hid (Rd N R M en w2 l) := HR1.out.below hb2
    have HF2 : Hid (Fr (fun k => k = R) w w2) := HF1.out.trans (Fr.below hb2)
    unfold tokA
    clear hb2
    go_wp2_with fail
    refine (risname_any _ HSZ.out _).mono ?_
    rintro e w3 ⟨rfl, hb3⟩
    rw [HNB.out]
    have HR3 : Hid (Rd N R M en w3 l) := HR2.out.below hb3
    have HF3 : Hid (Fr (fun k => k = R) w w3) := HF2.out.trans (Fr.below hb3)
    clear hb3
    cases nb
    · have HP2 : Hid (P = .bad (headT en l).place 1) := HP.out
      go_wp2_with fail
      refine (pass_any N R M en false w3 l HR3.out (fun hb => by cases hb)).mono ?_
      intro e w4 hp
      obtain ⟨rfl, hfr⟩ := hp
      have hfr2 := HF3.out.trans hfr
      go_wp2
      exact ⟨rfl, by rw [HP2.out]; exact ⟨rfl, hfr2⟩⟩
    · have HP2 : Hid (P = .bad (headT en l).place 5) := HP.out
      go_wp2_with fail
      refine (giveup_any N R M en 5 _ l HR3.out).mono ?_
      rintro e w4 ⟨rfl, hb4⟩
      have hfr2 := HF3.out.trans (Fr.below hb4)
      go_wp2
      exact ⟨rfl, by rw [HP2.out]; exact ⟨rfl, hfr2⟩⟩
  · have HP2 : Hid (P = (passP en true l).bind fun _ r => .ok ri r) := HP.out
    go_wp2_with fail
    refine (pass_any N R M en true w1 l HR1.out (fun _ => HL.out (by first | rfl | trivial))).mono ?_
    intro e w4 hp
    obtain ⟨v, rfl, rfl, hrd, hfr⟩ := hp
    have hfr2 := HF1.out.trans hfr
    unfold tokA
    go_wp2
    go_ret
    rw [HP2.out]
    exact ⟨_, rfl, rfl, hrd, hfr2⟩
end Go.Proofs.YtdjbejlbmaiocabGreatDoor
/-
  MEMORY: lists that are new, above a block, stay while the reader goes on. WALK: package text: readList of numbers.
-/
namespace Go.Proofs.YtdjbejlbmaiocabGreatDoor
open Go.RowKit

theorem own_fr {X : Nat → Prop} {w w' : World} {base : Nat} {e : TypeId} {size n : Nat} {v : Value} {xs : List Value} (h : w.ownsRow base e size v n xs) (hf : Fr X w w') (hX : ∀ k, X k → k < base) : w'.ownsRow base e size v n xs := by
  refine ⟨h.1, ?_⟩
  rcases h.2 with hn | ⟨g, cap, cur, hv, hg, hh, r⟩
  · exact .inl hn
  · exact .inr ⟨g, cap, cur, hv, hg, by rw [hf.block g (Array.getElem?_eq_some_iff.1 hh).1 (fun hx => by have := hX g hx; omega)]; exact hh, r⟩
theorem Rd.grown {N R M : Nat} {en : Int} {w w' : World} {l : List Tok} {row : Option Nat} (h : Rd N R M en w l) (hg : w.grownBy w' row) (hr : ∀ k, row = some k → k ≠ R ∧ N ≤ k) : Rd N R M en w' l := by
  obtain ⟨⟨h1, h2, h3⟩, v, hR, ht⟩ := h
  have hRl : R < w.heap.size := (Array.getElem?_eq_some_iff.1 hR).1
  refine ⟨⟨h1, Nat.le_trans h2 hg.size, h3⟩, v, (hg.block R hRl (fun e => (hr R e.symm).1 rfl)).trans hR, ht.old fun q hq => World.cell?_of_block (hg.block _ (by omega) (fun e => by have := (hr _ e.symm).2; omega))⟩
theorem solid_open : solid ⟨#[91]⟩ := by unfold solid; simp [go_sem]
theorem solid_close : solid ⟨#[93]⟩ := by unfold solid; simp [go_sem]
theorem solid_comma : solid ⟨#[44]⟩ := by unfold solid; simp [go_sem]
/-- How many tokens a reader has. -/
def leftT (R : Nat) (w : World) : Nat := match w.cell? ⟨R, 0, none⟩ with
  | some (.slice _ n _) => n
  | _ => 0
theorem leftT_rd {N R M : Nat} {en : Int} {w : World} {l : List Tok} (h : Rd N R M en w l) : leftT R w = l.length := by
  obtain ⟨_, v, hR, a, c, rfl, _⟩ := h
  unfold leftT
  rw [Lib.cell_of_heap hR]
  rfl
/-- A thing that is read, by a bound method; what must be of the world besides stays. -/
def Item {α : Type} (B N R M : Nat) (en : Int) (F : Nat) (item : List Tok → PR α) (G : α → Value → World → Prop) (I : World → Prop) : Prop :=
  (∀ (args : Array Value) (w' : World), Sem.run Tryz.prog (callFunc F args) w' = .ok (.enter F args) w') ∧ (∀ w w', I w → Fr (fun k => k = R ∨ B ≤ k) w w' → I w') ∧
  ∀ (w : World) (l : List Tok), Rd N R M en w l → I w → Calls Tryz.prog F #[.pointer (some ⟨R, 0, none⟩)] w (PostR (item l) G N R M en (fun k => k = R) w)
theorem Tryz.infoInt5 : (Tryz.prog.info? 3).map (fun i => (i.zero, i.size, i.bytes)) = some (some (.int .i64 0), 1, 8) := by kernel_rfl
theorem Tryz.underInts5 : Tryz.prog.underlying 50 = some (.slice 3) := by kernel_rfl
theorem PR_bad_bind {α β : Type} {p : PR α} {f : α → List Tok → PR β} {x e : Int} (h : p = .bad x e) : p.bind f = .bad x e := by rw [h]; rfl
theorem PR_ok_bind {α β : Type} {p : PR α} {f : α → List Tok → PR β} {a : α} {r : List Tok} (h : p = .ok a r) : p.bind f = f a r := by rw [h]; rfl
theorem skip_len {en : Int} {s : ByteArray} (hs : solid s) {l r : List Tok} {t : Tok} (h : skipP en s l = .ok t r) : r.length + 1 = l.length := by
  have h1 := pass_eats en l _ t r h
  unfold skipP passP at h
  split at h
  · rename_i hb
    have := head_some en l s hs hb
    rw [h1]
    cases l with
    | nil => exact absurd rfl this
    | cons a l => simp
  · cases h

theorem one_laid5 (w : World) (z : Int) : ∀ (j : Nat) (u : Value), [Value.int .i64 z][j]? = some u → (w.alloc (.cells #[.int .i64 z] 3)).cell? ((⟨w.heap.size, 0, none⟩ : Addr).add j) = some u := by
  intro j u hj
  match j, hj with
  | 0, hj => simp at hj; subst hj; simp [Addr.add]
set_option maxHeartbeats 3200000 in
set_option maxRecDepth 100000 in
theorem readints_any (N R M : Nat) (en : Int) (F : Nat) (item : List Tok → PR Int) (I : World → Prop) (hE : Eats item) (B : Nat) (hI : Item B N R M en F item (fun i v _ => v = .int .i64 i) I) (w : World) (hBw : B ≤ w.heap.size) (l : List Tok) (h : Rd N R M en w l) (hi0 : I w) (hl : l.length ≤ 4000) :
    Calls Tryz.prog 118 #[.pointer (some ⟨R, 0, none⟩), .func (.func F) #[.pointer (some ⟨R, 0, none⟩)] #[]] w
      (PostR (readP en item l) (fun xs v w' => w'.ownsRow w.heap.size 3 1 v xs.length (xs.map (Value.int .i64)) ∧ I w') N R M en (fun k => k = R) w) := by
  have HB : Hid (Rd N R M en w l) := h
  have HI0 : Hid (I w) := hi0
  have HIT : Hid (Item B N R M en F item (fun i v _ => v = .int .i64 i) I) := hI
  have HE : Hid (Eats item) := hE
  have hRw : R < w.heap.size := by obtain ⟨_, _, hR, _⟩ := h; exact (Array.getElem?_eq_some_iff.1 hR).1
  have HX : Hid (∀ k, (fun k => k = R) k → k < w.heap.size) := fun k hk => by subst hk; exact hRw
  obtain ⟨i0, hi, hz0, hz1, hz2⟩ := info_parts Tryz.infoInt5
  obtain ⟨P, hP⟩ : ∃ P, readP en item l = P := ⟨_, rfl⟩
  have HP : Hid (readP en item l = P) := hP
  rw [hP]
  clear hP h hi0 hI hE
  go_enter Tryz.func118, Tryz.ntmps118
  go_wp2_with fail
  refine (rskip_any N R M en ⟨#[91]⟩ solid_open w l HB.out).mono ?_
  intro e w1 hp
  cases hs : skipP en ⟨#[91]⟩ l with
  | bad x er =>
    rw [hs] at hp
    obtain ⟨rfl, hfr⟩ := hp
    have HPB : Hid (P = .bad x er) := by show _ = _; rw [← HP.out]; unfold readP; rw [hs]; rfl
    clear hs
    go_wp2
    exact ⟨rfl, by rw [HPB.out]; exact ⟨rfl, hfr⟩⟩
  | ok t q =>
    rw [hs] at hp
    obtain ⟨v, rfl, rfl, hrd, hfr⟩ := hp
    have HRD : Hid (Rd N R M en w1 q) := hrd
    have HFR : Hid (Fr (fun k => k = R) w w1) := hfr
    have hql : q.length + 1 = l.length := skip_len solid_open hs
    have HQL : Hid (q.length + 1 = l.length) := hql
    have HP1 : Hid (P = if (headT en q).text.toList == [93] then (skipP en ⟨#[93]⟩ q).bind fun _ l => .ok [] l else (item q).bind fun x l => moreP en item (l.length + 1) [x] l) := by
      show _ = _; rw [← HP.out]; unfold readP; rw [hs]; rfl
    have hf2 := tokF2 (headT en q)
    clear hs hrd hfr HP hql
    go_wp2_with fail
    refine (ahead_any N R M en _ q HRD.out).mono ?_
    rintro e w2 ⟨rfl, hb2⟩
    have HR2 : Hid (Rd N R M en w2 q) := HRD.out.below hb2
    have HF2 : Hid (Fr (fun k => k = R) w w2) := HFR.out.trans (Fr.below hb2)
    unfold tokA
    clear hb2
    cases hq : ((headT en q).text.toList == [93])
    · have HP2 : Hid (P = (item q).bind fun x l => moreP en item (l.length + 1) [x] l) := by show _ = _; rw [HP1.out, hq]; rfl
      have HI2 : Hid (I w2) := HIT.out.2.1 _ _ HI0.out (HF2.out.weak fun k hk => Or.inl hk)
      clear HP1
      go_wp2_with fail
      rw [HIT.out.1, Oper.upon_enter]
      refine (HIT.out.2.2 w2 q HR2.out HI2.out).mono ?_
      intro e w3 hp
      cases hit : item q with
      | bad x er =>
        rw [hit] at hp
        obtain ⟨rfl, hfr⟩ := hp
        have hfr2 := HF2.out.trans hfr
        have HPB : Hid (P = .bad x er) := by show _ = _; rw [HP2.out, hit]; rfl
        clear hit hq hfr
        go_wp2
        exact ⟨rfl, by rw [HPB.out]; exact ⟨rfl, hfr2⟩⟩
      | ok x r =>
        rw [hit] at hp
        obtain ⟨v, rfl, rfl, hrd, hfr⟩ := hp
        have HR3 : Hid (Rd N R M en w3 r) := hrd
        have HF3 : Hid (Fr (fun k => k = R) w w3) := HF2.out.trans hfr
        have HI3 : Hid (I w3) := HIT.out.2.1 _ _ HI2.out (hfr.weak fun k hk => Or.inl hk)
        have HRL : Hid (r.length ≤ q.length) := HE.out q x r hit
        have HP3 : Hid (P = moreP en item (r.length + 1) [x] r) := by show _ = _; rw [HP2.out, hit]; rfl
        have hsz3 : w.heap.size ≤ w3.heap.size := HF3.out.size
        clear hit hrd hfr hq hf2 HP2
        go_wp2_with (at_builtin; refine wpList_append_own _ rfl _ _ 50 rfl w.heap.size 3 i0 (.int .i64 0) 1 8 Tryz.underInts5 hi hz0 hz1 hz2 rfl (by decide) _ _ _ rfl (World.ownsRow_nil _ _ _ _) ⟨w3.heap.size, 0, none⟩ 1 1 [.int .i64 x] rfl rfl ?c1 ?c2 ?c3 ?c4 ?c5 ?_)
        case c1 => exact one_laid5 w3 x
        case c2 => intro u hu; rcases List.mem_singleton.1 hu with rfl; rfl
        case c3 => unfold maxLen; omega
        case c4 => omega
        case c5 => simp; omega
        intro v5 w5 hown5 hg5 _
        have HR5 : Hid (Rd N R M en w5 r) := (HR3.out.below (below_alloc _ _)).grown hg5 (fun k hk => by cases hk)
        have HF5 : Hid (Fr (fun k => k = R) w w5) := (HF3.out.alloc _).grown hg5 (fun k hk => by cases hk)
        have HI5 : Hid (I w5) := HIT.out.2.1 _ _ HI3.out (((Fr.refl _ _).alloc _).grown hg5 (fun k hk => by cases hk))
        have HO5 : Hid (w5.ownsRow w.heap.size 3 1 v5 [x].length ([x].map (Value.int .i64))) := hown5
        clear hown5 hg5
        go_wp2_with fail
        go_loopw [5] (fun v wr => ∃ (f : Nat) (acc : List Int) (q : List Tok), Hid (P = moreP en item f acc q) ∧ Hid (Rd N R M en wr q) ∧ Hid (I wr) ∧ Hid (wr.ownsRow w.heap.size 3 1 v acc.length (acc.map (Value.int .i64))) ∧ Hid (Fr (fun k => k = R) w wr) ∧ q.length + 1 ≤ f ∧ acc.length + q.length ≤ 4000) (fun _ wr => leftT R wr)
        case atStart => exact ⟨_, [x], r, HP3, HR5, HI5, HO5, HF5, by omega, by have := HRL.out; have := HQL.out; simp; omega⟩
        case round =>
          obtain ⟨f, acc, q, HPM, HRM, HIM, HOM, HFM, hf, hlen⟩ := hrel
          obtain ⟨g, rfl⟩ : ∃ g, f = g + 1 := ⟨f - 1, by omega⟩
          have hf2 := tokF2 (headT en q)
          obtain ⟨av, cv, hv⟩ := own_form HOM.out
          subst hv
          have HCM : Hid ((⟨#[44]⟩ : ByteArray).toList = [44]) := by show _ = _; simp [go_sem]
          cases hc : ((headT en q).text.toList == [44])
          · have HPE : Hid (P = (skipP en ⟨#[93]⟩ q).bind fun _ l => .ok acc l) := by show _ = _; rw [HPM.out]; unfold moreP; rw [hc]; rfl
            go_wp2_with fail
            refine (ahead_any N R M en _ q HRM.out).mono ?_
            rintro e w6 ⟨rfl, hb6⟩
            have HR6 : Hid (Rd N R M en w6 q) := HRM.out.below hb6
            have HF6 : Hid (Fr (fun k => k = R) w w6) := HFM.out.trans (Fr.below hb6)
            have HI6 : Hid (I w6) := HIT.out.2.1 _ _ HIM.out (Fr.below hb6)
            have HO6 : Hid (w6.ownsRow w.heap.size 3 1 (.slice av acc.length cv) acc.length (acc.map (Value.int .i64))) := own_below HOM.out hb6
            unfold tokA
            clear hb6
            go_wp2_with fail
            refine (rskip_any N R M en ⟨#[93]⟩ solid_close w6 q HR6.out).mono ?_
            intro e w7 hp
            cases hs : skipP en ⟨#[93]⟩ q with
            | bad x er =>
              rw [hs] at hp
              obtain ⟨rfl, hfr⟩ := hp
              have hfr2 := HF6.out.trans hfr
              have HPB : Hid (P = .bad x er) := by show _ = _; rw [HPE.out, hs]; rfl
              clear hs hc hfr
              go_wp2
              exact ⟨rfl, by rw [HPB.out]; exact ⟨rfl, hfr2⟩⟩
            | ok t q2 =>
              rw [hs] at hp
              obtain ⟨v, rfl, rfl, hrd, hfr⟩ := hp
              have hfr2 := HF6.out.trans hfr
              have HI7 : Hid (I w7) := HIT.out.2.1 _ _ HI6.out (hfr.weak fun k hk => Or.inl hk)
              have HO7 : Hid (w7.ownsRow w.heap.size 3 1 (.slice av acc.length cv) acc.length (acc.map (Value.int .i64))) := own_fr HO6.out hfr HX.out
              have HPB : Hid (P = .ok acc q2) := by show _ = _; rw [HPE.out, hs]; rfl
              clear hs hc hfr
              go_wp2
              go_ret
              rw [HPB.out]
              exact ⟨_, rfl, ⟨HO7.out, HI7.out⟩, hrd, hfr2⟩
          · have hne := head_some en q ⟨#[44]⟩ solid_comma (by rw [HCM.out]; exact hc)
            have HSK : Hid (skipP en ⟨#[44]⟩ q = .ok (headT en q) q.tail) := by show _ = _; unfold skipP passP; rw [HCM.out, hc]; rfl
            obtain ⟨q2, hq2⟩ : ∃ q2, q.tail = q2 := ⟨_, rfl⟩
            have HQ2 : Hid (q.tail = q2) := hq2
            have hql2 : q2.length + 1 = q.length := by
              rw [← hq2]
              cases q with
              | nil => exact absurd rfl hne
              | cons a q => simp
            have HPE : Hid (P = (item q2).bind fun x l => moreP en item g (acc ++ [x]) l) := by show _ = _; rw [HPM.out, moreP, hc, if_pos rfl, HSK.out, ← hq2]; rfl
            clear hne hq2
            go_wp2_with fail
            refine (ahead_any N R M en _ q HRM.out).mono ?_
            rintro e w6 ⟨rfl, hb6⟩
            have HR6 : Hid (Rd N R M en w6 q) := HRM.out.below hb6
            have HF6 : Hid (Fr (fun k => k = R) w w6) := HFM.out.trans (Fr.below hb6)
            have HI6 : Hid (I w6) := HIT.out.2.1 _ _ HIM.out (Fr.below hb6)
            have HO6 : Hid (w6.ownsRow w.heap.size 3 1 (.slice av acc.length cv) acc.length (acc.map (Value.int .i64))) := own_below HOM.out hb6
            unfold tokA
            clear hb6
            go_wp2_with fail
            refine (rskip_any N R M en ⟨#[44]⟩ solid_comma w6 q HR6.out).mono ?_
            intro e w7 hp
            rw [HSK.out] at hp
            obtain ⟨v, rfl, rfl, hrd, hfr⟩ := hp
            have HR7 : Hid (Rd N R M en w7 q2) := by rw [← HQ2.out]; exact hrd
            have HF7 : Hid (Fr (fun k => k = R) w w7) := HF6.out.trans hfr
            have HI7 : Hid (I w7) := HIT.out.2.1 _ _ HI6.out (hfr.weak fun k hk => Or.inl hk)
            have HO7 : Hid (w7.ownsRow w.heap.size 3 1 (.slice av acc.length cv) acc.length (acc.map (Value.int .i64))) := own_fr HO6.out hfr HX.out
            clear hrd hfr hc hf2
            go_wp2_with fail
            rw [HIT.out.1, Oper.upon_enter]
            refine (HIT.out.2.2 w7 q2 HR7.out HI7.out).mono ?_
            intro e w8 hp
            cases hit : item q2 with
            | bad x er =>
              rw [hit] at hp
              obtain ⟨rfl, hfr⟩ := hp
              have hfr2 := HF7.out.trans hfr
              have HPB : Hid (P = .bad x er) := by show _ = _; rw [HPE.out, hit]; rfl
              clear hit hfr
              go_wp2
              exact ⟨rfl, by rw [HPB.out]; exact ⟨rfl, hfr2⟩⟩
            | ok x r =>
              rw [hit] at hp
              obtain ⟨v, rfl, rfl, hrd, hfr⟩ := hp
              have HR8 : Hid (Rd N R M en w8 r) := hrd
              have HF8 : Hid (Fr (fun k => k = R) w w8) := HF7.out.trans hfr
              have HI8 : Hid (I w8) := HIT.out.2.1 _ _ HI7.out (hfr.weak fun k hk => Or.inl hk)
              have HO8 : Hid (w8.ownsRow w.heap.size 3 1 (.slice av acc.length cv) acc.length (acc.map (Value.int .i64))) := own_fr HO7.out hfr HX.out
              have hrl : r.length ≤ q2.length := HE.out q2 x r hit
              have HPN : Hid (P = moreP en item g (acc ++ [x]) r) := by show _ = _; rw [HPE.out, hit]; rfl
              have hsz8 : w.heap.size ≤ w8.heap.size := HF8.out.size
              have hox := HO8.out.alloc (.cells #[.int .i64 x] 3)
              clear hit hrd hfr
              go_wp2_with (at_builtin; refine wpList_append_own _ rfl _ _ 50 rfl w.heap.size 3 i0 (.int .i64 0) 1 8 Tryz.underInts5 hi hz0 hz1 hz2 rfl (by decide) _ _ _ rfl hox ⟨w8.heap.size, 0, none⟩ 1 1 [.int .i64 x] rfl rfl ?c1 ?c2 ?c3 ?c4 ?c5 ?_)
              case c1 => exact one_laid5 w8 x
              case c2 => intro u hu; rcases List.mem_singleton.1 hu with rfl; rfl
              case c3 => unfold maxLen; omega
              case c4 => omega
              case c5 => simp; omega
              intro v9 w9 hown9 hg9 _
              have hrow : ∀ k, (Value.slice av acc.length cv).ownBlock = some k → w.heap.size ≤ k := fun k hk => (HO8.out.lt k hk).1
              have HR9 : Hid (Rd N R M en w9 r) := (HR8.out.below (below_alloc _ _)).grown hg9 (fun k hk => ⟨by have := hrow k hk; omega, by have := hrow k hk; have := HB.out.1.2.1; omega⟩)
              have HF9 : Hid (Fr (fun k => k = R) w w9) := (HF8.out.alloc _).grown hg9 (fun k hk => Or.inr (hrow k hk))
              have HI9 : Hid (I w9) := HIT.out.2.1 _ _ HI8.out (((Fr.refl _ _).alloc _).grown hg9 (fun k hk => Or.inl (Or.inr (by have := hrow k hk; omega))))
              have HO9 : Hid (w9.ownsRow w.heap.size 3 1 v9 (acc ++ [x]).length ((acc ++ [x]).map (Value.int .i64))) := by
                rw [List.length_append, List.map_append]; exact hown9
              have HM9 : Hid (leftT R w9 < leftT R wr) := by show _ < _; rw [leftT_rd HR9.out, leftT_rd HRM.out]; omega
              clear hown9 hg9 hrow hox
              go_wp2
              go_roundw
              case rel => exact ⟨g, acc ++ [x], r, HPN, HR9, HI9, HO9, HF9, by omega, by simp; omega⟩
              case measure => exact HM9.out
    · have HP2 : Hid (P = (skipP en ⟨#[93]⟩ q).bind fun _ l => .ok [] l) := by show _ = _; rw [HP1.out, hq]; rfl
      have HI2 : Hid (I w2) := HIT.out.2.1 _ _ HI0.out (HF2.out.weak fun k hk => Or.inl hk)
      clear HP1
      go_wp2_with fail
      refine (rskip_any N R M en ⟨#[93]⟩ solid_close w2 q HR2.out).mono ?_
      intro e w7 hp
      cases hs : skipP en ⟨#[93]⟩ q with
      | bad x er =>
        rw [hs] at hp
        obtain ⟨rfl, hfr⟩ := hp
        have hfr2 := HF2.out.trans hfr
        have HPB : Hid (P = .bad x er) := by show _ = _; rw [HP2.out, hs]; rfl
        clear hs hq hfr
        go_wp2
        exact ⟨rfl, by rw [HPB.out]; exact ⟨rfl, hfr2⟩⟩
      | ok t q2 =>
        rw [hs] at hp
        obtain ⟨v, rfl, rfl, hrd, hfr⟩ := hp
        have hfr2 := HF2.out.trans hfr
        have HI7 : Hid (I w7) := HIT.out.2.1 _ _ HI2.out (hfr.weak fun k hk => Or.inl hk)
        have HPB : Hid (P = .ok [] q2) := by show _ = _; rw [HP2.out, hs]; rfl
        clear hs hq hfr
        go_wp2
        go_ret
        rw [HPB.out]
        exact ⟨_, rfl, ⟨World.ownsRow_nil _ _ _ _, HI7.out⟩, hrd, hfr2⟩
end Go.Proofs.YtdjbejlbmaiocabGreatDoor
