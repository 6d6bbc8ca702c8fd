/-
  PART 8 of what the proof leans on (FolB, FrA, FolD, ExpA, FenL, RowG, RowD, FolL, FolM, FenW).
-/
import Derived.Test.YtdjbejlbmaiocagGreatDoorPartG
import Derived.Deep.RegionLaw
import Derived.Deep.CutBlock
import Derived.Lib.SliceRun
import Derived.Deep.Onto
import Derived.Shelf.RegionOpenPlain
import Derived.KernelRfl
/-
  MEMORY: rules. WALK: package follow: narrow.
-/
namespace Go.Proofs.YtdjbejlbmaiocagGreatDoor
open Go.RowKit

/-- Rules, as they lie. -/
structure RulesAt (w : World) (r : Nat) (sv pv cv : Value) (vs : List MVar) (pt : List (List Nat)) (cs : List Nat) : Prop where
  lt : r < w.heap.size
  c0 : w.cell? ⟨r, 0, none⟩ = some sv
  c1 : w.cell? ⟨r, 1, none⟩ = some pv
  c2 : w.cell? ⟨r, 2, none⟩ = some cv
  hv : VArg w sv vs
  hp : PPArg w pv pt
  hc : PArg w cv cs
  tab : TabT w
theorem RulesAt.below {w w' : World} {r : Nat} {sv pv cv : Value} {vs : List MVar} {pt : List (List Nat)} {cs : List Nat} (hb : Below w.heap.size w w') (h : RulesAt w r sv pv cv vs pt cs) : RulesAt w' r sv pv cv vs pt cs :=
  ⟨Nat.lt_of_lt_of_le h.lt hb.size, (hb.cell (p := ⟨r, 0, none⟩) h.lt).trans h.c0, (hb.cell (p := ⟨r, 1, none⟩) h.lt).trans h.c1, (hb.cell (p := ⟨r, 2, none⟩) h.lt).trans h.c2, VArg.below hb h.hv, PPArg.below hb h.hp, PArg.below hb h.hc, h.tab.below hb⟩
/-- Who is told of what constraints take. -/
structure Teller (F : Nat) (caps : Array Value) (vs : List MVar) (pt : List (List Nat)) (I : List (Nat × Nat × Nat) → World → Prop) : Prop where
  enters : ∀ (args : Array Value) (w' : World), Sem.run Tryz.prog (callFunc F args) w' = .ok (.enter F args) w'
  below : ∀ T w w', I T w → Below w.heap.size w w' → I T w'
  call : ∀ (T : List (Nat × Nat × Nat)) (con b a : Nat) (w : World), I T w → T.length ≤ 36 → con < pt.length → (∀ i, b.testBit i = true → (wholeP vs).testBit i = true) → (∀ i, a.testBit i = true → b.testBit i = true) →
    Calls Tryz.prog F (#[.int .i64 con, .int .u64 b, .int .u64 a] ++ caps) w fun e w' => e = .returned (.tuple #[]) ∧ I (T ++ [(con, b, a)]) w'
theorem cons_drop {pt : List (List Nat)} {k l : Nat} {pts : List Nat} (h : pt[k]? = some pts) : consN (pt.drop k) l = (if l = 0 then l else consN (pt.drop (k + 1)) (leftP pts l)) ∧
    consT k (pt.drop k) l = if l = 0 then [] else (if leftP pts l = l then [] else [(k, l, leftP pts l)]) ++ consT (k + 1) (pt.drop (k + 1)) (leftP pts l) := by
  have hk : k < pt.length := (List.getElem?_eq_some_iff.1 h).1
  have hc : pt[k] = pts := by rw [List.getElem?_eq_getElem hk] at h; exact Option.some.inj h
  rw [List.drop_eq_getElem_cons hk, hc]
  exact ⟨rfl, rfl⟩
theorem cons_zero (pt : List (List Nat)) (k : Nat) : consN pt 0 = 0 ∧ consT k pt 0 = [] := by
  cases pt <;> exact ⟨rfl, rfl⟩

set_option maxHeartbeats 3200000 in
set_option maxRecDepth 100000 in
theorem narrow_any (vs : List MVar) (hva : VarsAll vs) (hn1 : 1 ≤ vs.length) (cs : List Nat) (pt : List (List Nat)) (h : Nat) (hh : h < 2 ^ 36) (r : Nat) (sv pv cv : Value) (F : Nat) (caps : Array Value)
    (I : List (Nat × Nat × Nat) → World → Prop) (hF : Teller F caps vs pt I) (hR : ∀ T w, I T w → RulesAt w r sv pv cv vs pt cs) (w : World) (hI : I [] w) :
    Calls Tryz.prog 191 #[.pointer (some ⟨r, 0, none⟩), .int .u64 h, .func (.func F) #[] caps] w fun e w' => e = .returned (.int .u64 ((narrowP vs cs pt h : Nat) : Int)) ∧ I (tellsP vs cs pt h) w' := by
  have HF : Hid (Teller F caps vs pt I) := hF
  have HRU : Hid (∀ T w, I T w → RulesAt w r sv pv cv vs pt cs) := hR
  have HI : Hid (I [] w) := hI
  have HVO : Hid (VarsAll vs) := hva
  have H6 : Hid (vs.length ≤ 6) := hva.1.1
  have H1 : Hid (1 ≤ vs.length) := hn1
  have HW36 : Hid (wholeP vs < 2 ^ 36) := of_lt vs hva.1 _
  obtain ⟨q, hq⟩ : ∃ q, wholeP vs = q := ⟨_, rfl⟩
  obtain ⟨l0, hl0⟩ : ∃ l0, lessN (wholeP vs) h = l0 := ⟨_, rfl⟩
  have HSUB : Hid (∀ i, l0.testBit i = true → (wholeP vs).testBit i = true) := fun i hi => by
    rw [← hl0, testBit_less, Bool.and_eq_true] at hi
    exact hi.1
  have HL36 : Hid (l0 < 2 ^ 36) := by rw [← hl0]; exact less_lt 36 _ _ HW36.out
  have hbits := bits_andNot_u64 (wholeP vs) h (by have := HW36.out; omega) (by omega)
  rw [hl0, hq] at hbits
  have HQ : Hid (wholeP vs = q) := hq
  obtain ⟨R, hRR⟩ : ∃ R, narrowP vs cs pt h = R := ⟨_, rfl⟩
  obtain ⟨TT, hTT⟩ : ∃ TT, tellsP vs cs pt h = TT := ⟨_, rfl⟩
  have HS : Hid (if 0 = l0 then R = l0 ∧ TT = [] else R = narrowN vs cs pt (l0 + 1) l0 ∧ TT = [] ++ narrowT vs cs pt (l0 + 1) l0) := by
    show (if _ then _ else _)
    rw [← hRR, ← hTT]
    unfold narrowP tellsP
    rw [hl0]
    by_cases h0 : l0 = 0
    · rw [if_pos h0.symm, if_pos h0, if_pos h0]; exact ⟨h0.symm, rfl⟩
    · rw [if_neg (fun e => h0 e.symm), if_neg h0, if_neg h0]; exact ⟨rfl, rfl⟩
  rw [hRR, hTT]
  have hRA := hR [] w hI
  have g0 := hRA.c0
  have g1 := hRA.c1
  have g2 := hRA.c2
  have HRA : Hid (RulesAt w r sv pv cv vs pt cs) := hRA
  obtain ⟨a, c, rfl, _, _⟩ := hRA.hv
  obtain ⟨a1, c1, rfl, hm, _⟩ := hRA.hp
  obtain ⟨a2, c2, rfl, _, _⟩ := hRA.hc
  unfold maxLen at hm
  obtain ⟨hm1, hm⟩ := hm
  clear hF hR hI hva hn1 hh hq hl0 hRR hTT hRA
  go_enter Tryz.func191, Tryz.ntmps191
  go_wp2_with fail
  refine (whole_any vs HVO.out _ _ HRA.out.hv).mono ?_
  rintro e w1 ⟨rfl, hb1⟩
  rw [HQ.out]
  have HI1 : Hid (I [] w1) := HF.out.below _ _ _ HI.out hb1
  clear hb1 g0 g1 g2 HI HRA
  go_wp2_with fail
  go_loopw [7, 8] (fun l b wr => ∃ (bb ll : Nat) (T : List (Nat × Nat × Nat)), l = .int .u64 (ll : Int) ∧ b = .int .u64 (bb : Int) ∧ Hid (ll < 2 ^ 36) ∧ Hid (∀ i, ll.testBit i = true → (wholeP vs).testBit i = true) ∧ Hid (if bb = ll then R = ll ∧ TT = T else R = narrowN vs cs pt (ll + 1) ll ∧ TT = T ++ narrowT vs cs pt (ll + 1) ll) ∧ Hid (T.length + bitsN ll ≤ 36) ∧ Hid (I T wr)) (fun l b _ => if intOf b = intOf l then 0 else (intOf l).toNat + 1)
  case atStart => exact ⟨0, l0, [], rfl, rfl, HL36, HSUB, HS, by show _ ≤ _; have := bits_le l0; simpa using this, HI1⟩
  case round =>
    obtain ⟨bb, ll, T, rfl, rfl, hl36, hls, hst, hbt, hi⟩ := hrel
    by_cases hbl : bb = ll
    · have HN : Hid (R = ll ∧ TT = T) := by have := hst.out; rw [if_pos hbl] at this; exact this
      have hne : ((bb : Int) != (ll : Int)) = false := by simp [hbl]
      clear hst hbl
      go_wp2
      go_ret
      exact ⟨ret_u64 HN.out.1.symm, by rw [HN.out.2]; exact hi.out⟩
    · obtain ⟨U, hU⟩ : ∃ U, unitsP vs cs ll = U := ⟨_, rfl⟩
      have HUE : Hid (unitsP vs cs ll = U) := hU
      have HN : Hid (R = (if consN pt U = ll then ll else narrowN vs cs pt (consN pt U + 1) (consN pt U)) ∧ TT = T ++ (consT 0 pt U ++ if consN pt U = ll then [] else narrowT vs cs pt (consN pt U + 1) (consN pt U))) := by
        show _ ∧ _
        have h1 := hst.out
        rw [if_neg hbl] at h1
        have h2 := narrow_step vs cs pt ll hl36.out
        rw [hU] at h2
        rw [h1.1, h1.2, h2.1, h2.2]
        exact ⟨rfl, rfl⟩
      have HUL : Hid (U ≤ ll) := by rw [← hU]; exact units_le vs cs ll
      have HUS : Hid (∀ i, U.testBit i = true → (wholeP vs).testBit i = true) := fun i hx => hls.out i (units_bit vs cs ll i (by rw [hU]; exact hx))
      have HUB : Hid (T.length + bitsN U ≤ 36) := by have h1 := hbt.out; have h2 := bits_sub U ll (fun i hx => units_bit vs cs ll i (by rw [hU]; exact hx)); show _ ≤ _; omega
      have HU36 : Hid (U < 2 ^ 36) := by have := HUL.out; have := hl36.out; show _ < _; omega
      have HBL : Hid (bb ≠ ll) := hbl
      have hne : ((bb : Int) != (ll : Int)) = true := by simp; omega
      have hRA := HRU.out T wr hi.out
      have g0 := hRA.c0
      have g2 := hRA.c2
      have gl := hRA.lt
      have HUN : Hid (∀ Y, Below wr.heap.size wr Y → Calls Tryz.prog 190 #[.slice a (List.length vs) c, .slice a2 (List.length cs) c2, .int .u64 (ll : Int)] Y fun e w' => e = .returned (.int .u64 (U : Int)) ∧ Below Y.heap.size Y w') := fun Y hY => by
        rw [← HUE.out]
        have hRY := RulesAt.below hY (HRU.out T wr hi.out)
        exact (units_any vs H6.out H1.out cs ll hl36.out _ _ _ hRY.hv hRY.hc hRY.tab).mono fun _ _ ⟨h1, h2⟩ => ⟨h1, by rw [h2]; exact Below.refl _ _⟩
      clear hst hbl hU hRA
      go_upto_region 5 with (fail)
      clear hne
      go_region_held3 (fun w' => Below wr.heap.size wr w' ∧ w'.cell? ⟨r, 0, none⟩ = some (.slice a (List.length vs) c) ∧ w'.cell? ⟨r, 2, none⟩ = some (.slice a2 (List.length cs) c2))
        ((refine (fun (hB : Below wr.heap.size wr _) => ⟨hB, (hB.cell (p := ⟨r, 0, none⟩) gl).trans g0, (hB.cell (p := ⟨r, 2, none⟩) gl).trans g2⟩ : Below wr.heap.size wr _ → _) ?_; first | exact (Below.refl _ _).drew | exact fen_call (by assumption) hbq))
        (first
          | (go_at_call 190; refine (HUN.out _ (show Below wr.heap.size wr _ ∧ _ by assumption).1).mono ?_; rintro e w3 ⟨rfl, hbq⟩; have hB3 := fen_call (by assumption) hbq))
      have HI3 : Hid (I T w3) := HF.out.below _ _ _ hi.out hB3
      clear hbq hB3 g0 g2 gl hi
      go_wp2_with fail
      go_loopw [7, 9] (fun l i wx => ∃ (k l2 : Nat) (T2 : List (Nat × Nat × Nat)), k ≤ pt.length ∧ i = .int .i64 k ∧ l = .int .u64 (l2 : Int) ∧ Hid (l2 < 2 ^ 36) ∧ Hid (∀ i, l2.testBit i = true → (wholeP vs).testBit i = true) ∧ Hid (consN pt U = consN (pt.drop k) l2 ∧ T ++ consT 0 pt U = T2 ++ consT k (pt.drop k) l2) ∧ Hid (T2.length + bitsN l2 ≤ 36) ∧ Hid (I T2 wx)) (fun _ i _ => pt.length - (intOf i).toNat)
      case atStart => exact ⟨0, U, T, by omega, rfl, rfl, HU36, HUS, ⟨rfl, rfl⟩, HUB, HI3⟩
      case round =>
        obtain ⟨k, l2, T2, hk, rfl, rfl, hl2, hs2, hst, hbt2, hi⟩ := hrel
        have hRA := HRU.out T2 wr hi.out
        have HRA : Hid (RulesAt wr r _ _ _ vs pt cs) := hRA
        have g0 := hRA.c0
        have g1 := hRA.c1
        by_cases hfin : k < pt.length ∧ l2 ≠ 0
        · obtain ⟨hlt, hl0⟩ := hfin
          obtain ⟨pts, hpts⟩ : ∃ pts, pt[k]? = some pts := ⟨pt[k], by simp [hlt]⟩
          obtain ⟨a5, c5, he5, _, hr5⟩ := hRA.hp
          obtain ⟨b, off, x, ha5, hb5, hc5, hx5⟩ := hr5 k pts hpts
          have HX5 : Hid (PArg wr x pts) := hx5
          obtain ⟨a6, c6, rfl, _, _⟩ := hx5
          rw [ha5] at he5
          have HST := cons_drop (l := l2) hpts
          rw [if_neg hl0, if_neg hl0] at HST
          obtain ⟨A, hA⟩ : ∃ A, leftP pts l2 = A := ⟨_, rfl⟩
          have HAE : Hid (leftP pts l2 = A) := hA
          have HAL : Hid (A ≤ l2) := by rw [← hA]; exact left_le pts l2 hl2.out
          have HAS : Hid (∀ i, A.testBit i = true → l2.testBit i = true) := fun i hx => left_bit pts l2 i hl2.out (by rw [hA]; exact hx)
          have HAB : Hid (T2.length + bitsN A ≤ 36) := by have h1 := hbt2.out; have h2 := bits_sub A l2 HAS.out; show _ ≤ _; omega
          have HTL : Hid (T2.length ≤ 36) := by have h1 := hbt2.out; show _ ≤ _; omega
          have HAN : Hid (A ≠ l2 → (T2 ++ [(k, l2, A)]).length + bitsN A ≤ 36) := fun hq => by have h1 := hbt2.out; have h2 := bits_less A l2 hl2.out HAS.out hq; rw [List.length_append]; simp; omega
          have HA36 : Hid (A < 2 ^ 36) := by have := HAL.out; have := hl2.out; show _ < _; omega
          rw [hA] at HST
          have HST2 : Hid (consN pt U = consN (pt.drop (k + 1)) A ∧ T ++ consT 0 pt U = T2 ++ ((if A = l2 then [] else [(k, l2, A)]) ++ consT (k + 1) (pt.drop (k + 1)) A)) := by
            have h1 := hst.out
            rw [HST.1, HST.2] at h1
            exact h1
          injection he5 with he5 _ _
          subst he5
          have hl0' : ((l2 : Int) != 0) = true := by simpa using hl0
          have hz2 : Hid (∀ i, A.testBit i = true → (wholeP vs).testBit i = true) := fun i hx => hs2.out i (HAS.out i hx)
          clear HST hA hst hr5 hRA hpts hl0
          go_wp2_with fail
          refine (fleft_any pts l2 hl2.out _ _ HX5.out HRA.out.tab).mono ?_
          rintro e wr ⟨rfl, rfl⟩
          rw [HAE.out]
          by_cases hAl : A = l2
          · have HN2 : Hid (consN pt U = consN (pt.drop (k + 1)) A ∧ T ++ consT 0 pt U = T2 ++ consT (k + 1) (pt.drop (k + 1)) A) := by
              have h1 := HST2.out
              rw [if_pos hAl, List.nil_append] at h1
              exact h1
            have hne : ((A : Int) != (l2 : Int)) = false := by simp [hAl]
            clear HST2 hAl
            go_wp2
            go_roundw
            case rel => exact ⟨k + 1, A, T2, by omega, by go_num, rfl, HA36, hz2, HN2, HAB, hi⟩
            case measure => simp [intOf]; omega
          · have HN2 : Hid (consN pt U = consN (pt.drop (k + 1)) A ∧ T ++ consT 0 pt U = (T2 ++ [(k, l2, A)]) ++ consT (k + 1) (pt.drop (k + 1)) A) := by
              have h1 := HST2.out
              rw [if_neg hAl, ← List.append_assoc] at h1
              exact h1
            have hne : ((A : Int) != (l2 : Int)) = true := by simp; omega
            have HAN2 : Hid ((T2 ++ [(k, l2, A)]).length + bitsN A ≤ 36) := HAN.out hAl
            clear HST2 hAl
            have HCL : Hid (Calls Tryz.prog F (#[.int .i64 k, .int .u64 l2, .int .u64 A] ++ caps) wr fun e w' => e = .returned (.tuple #[]) ∧ I (T2 ++ [(k, l2, A)]) w') := HF.out.call T2 k l2 A wr hi.out HTL.out hlt hs2.out HAS.out
            go_wp2_with fail
            rw [HF.out.enters, Oper.upon_enter]
            refine HCL.out.mono ?_
            rintro e w4 ⟨rfl, hi4⟩
            have HI4 : Hid (I (T2 ++ [(k, l2, A)]) w4) := hi4
            clear hi4 g0 g1 hc5 HCL
            go_wp2
            go_roundw
            case rel => exact ⟨k + 1, A, T2 ++ [(k, l2, A)], by omega, by go_num, rfl, HA36, hz2, HN2, HAN2, HI4⟩
            case measure => simp [intOf]; omega
        · have HE : Hid (consN pt U = l2 ∧ T ++ consT 0 pt U = T2) := by
            have h1 := hst.out
            by_cases hlt : k < pt.length
            · have h0 : l2 = 0 := Classical.byContradiction fun hne => hfin ⟨hlt, hne⟩
              rw [h0, (cons_zero _ k).1, (cons_zero _ k).2, List.append_nil] at h1
              rw [h0]; exact h1
            · rw [show k = pt.length by omega, List.drop_length] at h1
              obtain ⟨h2, h3⟩ := h1
              have e : T2 ++ consT pt.length [] l2 = T2 := by simp [consT]
              rw [e] at h3
              exact ⟨h2, h3⟩
          have HLE : Hid (l2 ≤ ll) := by
            rw [← HE.out.1]
            exact Nat.le_trans (consN_le pt U HU36.out) HUL.out
          have HU2 : Hid (if ll = l2 then R = l2 ∧ TT = T2 else R = narrowN vs cs pt (l2 + 1) l2 ∧ TT = T2 ++ narrowT vs cs pt (l2 + 1) l2) := by
            show (if _ then _ else _)
            obtain ⟨h1, h2⟩ := HN.out
            rw [← List.append_assoc, HE.out.2] at h2
            rw [HE.out.1] at h1 h2
            by_cases hq : ll = l2
            · rw [if_pos hq.symm] at h1 h2
              rw [if_pos hq, h1, h2, List.append_nil]
              exact ⟨hq, rfl⟩
            · rw [if_neg (fun h => hq h.symm)] at h1 h2
              rw [if_neg hq, h1, h2]
              exact ⟨rfl, rfl⟩
          have HM : Hid ((if (ll : Int) = (l2 : Int) then 0 else (l2 : Int).toNat + 1) < (if (bb : Int) = (ll : Int) then 0 else (ll : Int).toNat + 1)) := by
            show _ < _
            have h1 := HBL.out
            have h2 := HLE.out
            have e : (if (bb : Int) = (ll : Int) then 0 else (ll : Int).toNat + 1) = (ll : Int).toNat + 1 := if_neg (by omega)
            rw [e]
            split <;> omega
          by_cases hlt : k < pt.length
          · have h0 : l2 = 0 := Classical.byContradiction fun hne => hfin ⟨hlt, hne⟩
            subst h0
            clear hst hfin
            go_wp2
            go_roundw
            case rel => exact ⟨ll, 0, T2, rfl, rfl, hl2, hs2, HU2, hbt2, hi⟩
            case measure => exact HM.out
          · clear hst hfin
            go_wp2
            go_roundw
            case rel => exact ⟨ll, l2, T2, rfl, rfl, hl2, hs2, HU2, hbt2, hi⟩
            case measure => exact HM.out
end Go.Proofs.YtdjbejlbmaiocagGreatDoor
/-
  MEMORY: all blocks but some are as they were; cells of a block; rows stay when a block of another type is written.
-/
namespace Go.Proofs.YtdjbejlbmaiocagGreatDoor
open Go.RowKit

/-- All blocks but some are as they were. -/
structure Fr (X : Nat → Prop) (w w' : World) : Prop where
  os : w'.os = w.os
  tape : w'.tape = w.tape
  output : w'.output = w.output
  size : w.heap.size ≤ w'.heap.size
  block : ∀ k, k < w.heap.size → ¬ X k → w'.heap[k]? = w.heap[k]?
theorem Fr.refl (X : Nat → Prop) (w : World) : Fr X w w := ⟨rfl, rfl, rfl, Nat.le_refl _, fun _ _ _ => rfl⟩
theorem Fr.trans {X : Nat → Prop} {a b c : World} (h : Fr X a b) (k : Fr X b c) : Fr X a c :=
  ⟨k.os.trans h.os, k.tape.trans h.tape, k.output.trans h.output, Nat.le_trans h.size k.size, fun i hi hx => (k.block i (Nat.lt_of_lt_of_le hi h.size) hx).trans (h.block i hi hx)⟩
theorem Fr.below {X : Nat → Prop} {w w' : World} (h : Below w.heap.size w w') : Fr X w w' := ⟨h.os, h.tape, h.output, h.size, fun k hk _ => h.block k hk⟩
theorem Fr.cell {X : Nat → Prop} {w w' : World} (h : Fr X w w') {p : Addr} (hp : p.block < w.heap.size) (hx : ¬ X p.block) : w'.cell? p = w.cell? p := World.cell?_of_block (w := w) (h.block p.block hp hx)

theorem Fr.setX {X : Nat → Prop} {a w : World} (h : Fr X a w) {p : Addr} (hp : X p.block) (u : Value) : Fr X a (w.setCell p u) :=
  ⟨h.os, h.tape, h.output, by simpa using h.size, fun k hk hx => (Below.heap_setCell _ _ _ _ (fun e => hx (by rw [e]; exact hp))).trans (h.block k hk hx)⟩
theorem Fr.setNew {X : Nat → Prop} {a w : World} (h : Fr X a w) {p : Addr} (hp : a.heap.size ≤ p.block) (u : Value) : Fr X a (w.setCell p u) :=
  ⟨h.os, h.tape, h.output, by simpa using h.size, fun k hk hx => (Below.heap_setCell _ _ _ _ (by omega)).trans (h.block k hk hx)⟩
theorem Fr.alloc {X : Nat → Prop} {a w : World} (h : Fr X a w) (o : Obj) : Fr X a (w.alloc o) := h.trans (Fr.below (below_alloc _ _))

theorem blk9 {w : World} {b : Nat} {cs : Array Value} {t : TypeId} (h : w.heap[b]? = some (.cells cs t)) (i : Nat) (v : Value) (hv : cs[i]? = some v) : w.cell? ⟨b, i, none⟩ = some v := by
  rw [Lib.cell_of_heap h]; exact hv
theorem frz9 {w : World} {b : Nat} {cs : Array Value} {t : TypeId} (h : w.heap[b]? = some (.cells cs t)) (i : Nat) : w.frozen? ⟨b, i, none⟩ = false := by
  unfold World.frozen?
  simp only [h]
  simp

theorem own_set {w : World} {B : Nat} {e t : TypeId} {size n : Nat} {v : Value} {xs : List Value} (h : w.ownsRow B e size v n xs) {C : Nat} {cs : Array Value} (hC : w.heap[C]? = some (.cells cs t)) (ht : t ≠ e) (i : Nat) (u : Value) : (w.setCell ⟨C, i, none⟩ u).ownsRow B e size v n xs := by
  refine ⟨h.1, ?_⟩
  rcases h.2 with hn | ⟨g, cap, cur, hv, hg, hh, r⟩
  · exact .inl hn
  · have hne : g ≠ C := by
      intro e1
      rw [e1, hC] at hh
      injection hh with h1
      injection h1 with _ h2
      exact ht h2
    exact .inr ⟨g, cap, cur, hv, hg, (Below.heap_setCell _ _ _ _ hne).trans hh, r⟩
theorem Fr.weak {X Y : Nat → Prop} {w w' : World} (h : Fr X w w') (hXY : ∀ k, X k → Y k) : Fr Y w w' := ⟨h.os, h.tape, h.output, h.size, fun k hk hx => h.block k hk fun hX => hx (hXY k hX)⟩
theorem Fr.grown {X : Nat → Prop} {a w w' : World} {row : Option Nat} (h : Fr X a w) (hg : w.grownBy w' row) (hr : ∀ k, row = some k → X k ∨ a.heap.size ≤ k) : Fr X a w' :=
  ⟨hg.os.trans h.os, hg.tape.trans h.tape, hg.output.trans h.output, Nat.le_trans h.size hg.size, fun k hk hx => (hg.block k (Nat.lt_of_lt_of_le hk h.size) (fun e => (hr k e.symm).elim hx (fun h2 => by omega))).trans (h.block k hk hx)⟩
theorem Fr.toBelow {w w' : World} (h : Fr (fun k => w.heap.size ≤ k) w w') : Below w.heap.size w w' := ⟨h.os, h.tape, h.output, h.size, fun k hk => h.block k hk (by omega)⟩
/-- Two rows of different types lie in different blocks. -/
theorem own_apart {w : World} {B B' : Nat} {e e' : TypeId} {s s' n n' : Nat} {v v' : Value} {xs xs' : List Value} (h : w.ownsRow B e s v n xs) (h' : w.ownsRow B' e' s' v' n' xs') (hne : e ≠ e') : v.ownBlock = none ∨ v.ownBlock ≠ v'.ownBlock := by
  rcases h.2 with ⟨rfl, _⟩ | ⟨g, cap, cur, rfl, hg, hh, _⟩
  · exact Or.inl rfl
  · right
    intro he
    rcases h'.2 with ⟨rfl, _⟩ | ⟨g', cap', cur', rfl, hg', hh', _⟩
    · cases he
    · have : g = g' := by injection he
      subst this
      rw [hh] at hh'
      injection hh' with h1
      injection h1 with _ h2
      exact hne h2
/-- A row stays when another of another type grows. -/
theorem own_grown {w w' : World} {B B' : Nat} {e e' : TypeId} {s s' n n' : Nat} {v v' : Value} {xs xs' : List Value} (h : w.ownsRow B e s v n xs) (hg : w.grownBy w' v'.ownBlock) (h' : w.ownsRow B' e' s' v' n' xs') (hne : e ≠ e') : w'.ownsRow B e s v n xs :=
  h.kept hg (own_apart h h' hne)
theorem blk_grown {w w' : World} {B : Nat} {e : TypeId} {s n : Nat} {v : Value} {xs : List Value} {r : Nat} {cs : Array Value} {t : TypeId} (h : w.heap[r]? = some (.cells cs t)) (hg : w.grownBy w' v.ownBlock) (h' : w.ownsRow B e s v n xs) (hne : t ≠ e) : w'.heap[r]? = some (.cells cs t) := by
  have hlt : r < w.heap.size := (Array.getElem?_eq_some_iff.1 h).1
  refine (hg.block r hlt ?_).trans h
  · intro he
    rcases h'.2 with ⟨rfl, _⟩ | ⟨g, cap, cur, rfl, _, hh, _⟩
    · cases he
    · have : g = r := by injection he with e1; exact e1.symm
      subst this
      rw [hh] at h
      injection h with h1
      injection h1 with _ h2
      exact hne h2.symm
end Go.Proofs.YtdjbejlbmaiocagGreatDoor
/-
  MEMORY: rules that grow. WALKS: package follow: Of, Add.
-/
namespace Go.Proofs.YtdjbejlbmaiocagGreatDoor
open Go.RowKit

theorem Tryz.infoPts : (Tryz.prog.info? 180).map (fun i => (i.zero, i.size, i.bytes)) = some (some (.slice none 0 0), 1, 24) := by kernel_rfl
theorem Tryz.underPts : Tryz.prog.underlying 198 = some (.slice 180) := by kernel_rfl
theorem Tryz.underPart : Tryz.prog.underlying 180 = some (.slice 183) := by kernel_rfl
/-- Lists of parts in rows of one's own. -/
def PRow (B : Nat) (w : World) (pv : Value) (L : List (List Nat)) : Prop :=
  ∃ cells, w.ownsRow B 180 1 pv L.length cells ∧ ∀ (i : Nat) (pts : List Nat), L[i]? = some pts → ∃ x, cells[i]? = some x ∧ w.ownsRow B 183 1 x pts.length (u64s pts)
theorem PRow.below {B : Nat} {w w' : World} {pv : Value} {L : List (List Nat)} (h : PRow B w pv L) (hb : Below w.heap.size w w') : PRow B w' pv L := by
  obtain ⟨cells, h1, h2⟩ := h
  refine ⟨cells, own_below h1 hb, fun i pts hi => ?_⟩
  obtain ⟨x, h3, h4⟩ := h2 i pts hi
  exact ⟨x, h3, own_below h4 hb⟩
theorem own_frx {X : Nat → Prop} {w w' : World} {B : Nat} {e : TypeId} {s n : Nat} {v : Value} {xs : List Value} (h : w.ownsRow B e s v n xs) (hf : Fr X w w') (hx : ∀ g, v.ownBlock = some g → ¬ X g) : w'.ownsRow B e s v n xs := by
  refine ⟨h.1, ?_⟩
  rcases h.2 with hn | ⟨g, cap, cur, hv, hg, hh, r⟩
  · exact .inl hn
  · exact .inr ⟨g, cap, cur, hv, hg, (hf.block g (Array.getElem?_eq_some_iff.1 hh).1 (hx g (by rw [hv]; rfl))).trans hh, r⟩
theorem PRow.fr {X : Nat → Prop} {B : Nat} {w w' : World} {pv : Value} {L : List (List Nat)} (h : PRow B w pv L) (hf : Fr X w w') (hx : ∀ g, X g → g < B) : PRow B w' pv L := by
  obtain ⟨cells, h1, h2⟩ := h
  refine ⟨cells, own_frx h1 hf (fun g hg hX => ?_), fun i pts hi => ?_⟩
  · have := (h1.lt g hg).1
    have := hx g hX
    omega
  · obtain ⟨x, h3, h4⟩ := h2 i pts hi
    refine ⟨x, h3, own_frx h4 hf (fun g hg hX => ?_)⟩
    have := (h4.lt g hg).1
    have := hx g hX
    omega
theorem PRow.arg {B : Nat} {w : World} {pv : Value} {L : List (List Nat)} (h : PRow B w pv L) (hl : ∀ pts ∈ L, ∀ z ∈ pts, z < 2 ^ 36) : PPArg w pv L := by
  obtain ⟨cells, h1, h2⟩ := h
  rcases h1.2 with ⟨rfl, hn⟩ | ⟨g, cap, cur, rfl, hg, hh, hc1, hc2, _, _⟩
  · have : L = [] := List.eq_nil_of_length_eq_zero hn
    subst this
    exact ⟨none, 0, rfl, ⟨Nat.le_refl _, Nat.zero_le _⟩, fun i z hz => by simp at hz⟩
  · refine ⟨_, cap, rfl, ⟨hc1, hc2⟩, fun i pts hi => ?_⟩
    obtain ⟨x, h3, h4⟩ := h2 i pts hi
    have hil : i < L.length := (List.getElem?_eq_some_iff.1 hi).1
    exact ⟨g, 0, x, rfl, (Array.getElem?_eq_some_iff.1 hh).1, by rw [Nat.zero_add, h1.cellAt i (by omega)]; exact h3, own_parts h4 (hl pts (List.mem_of_getElem? hi))⟩
theorem PRow.push {B : Nat} {w w' : World} {pv v' x : Value} {L : List (List Nat)} {cells : List Value} {pts : List Nat} {n : Nat} (hc : w.ownsRow B 180 1 pv L.length cells) (h2 : ∀ (i : Nat) (p : List Nat), L[i]? = some p → ∃ x, cells[i]? = some x ∧ w.ownsRow B 183 1 x p.length (u64s p))
    (hx : w.ownsRow B 183 1 x pts.length (u64s pts)) (hg : w.grownBy w' pv.ownBlock) (hn : n = L.length + 1) (ho : w'.ownsRow B 180 1 v' n (cells ++ [x])) : PRow B w' v' (L ++ [pts]) := by
  have hcl : cells.length = L.length := by have := hc.1; omega
  refine ⟨cells ++ [x], by rw [List.length_append]; rw [hn] at ho; exact ho, fun i p hi => ?_⟩
  by_cases hil : i < L.length
  · rw [List.getElem?_append_left hil] at hi
    obtain ⟨y, h3, h4⟩ := h2 i p hi
    exact ⟨y, by rw [List.getElem?_append_left (by omega)]; exact h3, own_grown h4 hg hc (by decide)⟩
  · have hlen := (List.getElem?_eq_some_iff.1 hi).1
    rw [List.length_append] at hlen
    have : i = L.length := by simp at hlen; omega
    subst this
    rw [List.getElem?_append_right (Nat.le_refl _), Nat.sub_self] at hi
    have : pts = p := by simpa using hi
    subst this
    exact ⟨x, by rw [List.getElem?_append_right (by omega), hcl, Nat.sub_self]; rfl, own_grown hx hg hc (by decide)⟩
/-- What stays of rules. -/
structure Rul (W : World) (r : Nat) (sv pv : Value) (vs : List MVar) (pt : List (List Nat)) : Prop where
  lt : r < W.heap.size
  keep : ∀ w', Fr (fun k => k = r) W w' → VArg w' sv vs ∧ PPArg w' pv pt ∧ TabT w'
/-- What grows. -/
structure RulD (W w : World) (r : Nat) (sv pv cv : Value) (cs : List Nat) : Prop where
  blk : w.heap[r]? = some (.cells #[sv, pv, cv] 204)
  own : w.ownsRow W.heap.size 183 1 cv cs.length (u64s cs)
  lt36 : ∀ z ∈ cs, z < 2 ^ 36
  fr : Fr (fun k => k = r) W w
theorem RulD.at {W w : World} {r : Nat} {sv pv cv : Value} {vs : List MVar} {pt : List (List Nat)} {cs : List Nat} (h : RulD W w r sv pv cv cs) (hr : Rul W r sv pv vs pt) : RulesAt w r sv pv cv vs pt cs :=
  ⟨(Array.getElem?_eq_some_iff.1 h.blk).1, blk9 h.blk 0 _ rfl, blk9 h.blk 1 _ rfl, blk9 h.blk 2 _ rfl, (hr.keep w h.fr).1, (hr.keep w h.fr).2.1, own_parts h.own h.lt36, (hr.keep w h.fr).2.2⟩
theorem RulD.below {W w w' : World} {r : Nat} {sv pv cv : Value} {cs : List Nat} (h : RulD W w r sv pv cv cs) (hb : Below w.heap.size w w') : RulD W w' r sv pv cv cs :=
  ⟨(hb.block r (Array.getElem?_eq_some_iff.1 h.blk).1).trans h.blk, own_below h.own hb, h.lt36, h.fr.trans (Fr.below hb)⟩
/-- Rules stay, if neither they nor their clauses are written. -/
theorem RulD.frd {X : Nat → Prop} {W w w' : World} {r : Nat} {sv pv cv : Value} {cs : List Nat} (h : RulD W w r sv pv cv cs) (hf : Fr X w w') (hr : ¬ X r) (hc : ∀ g, cv.ownBlock = some g → ¬ X g) (hX : ∀ g, X g → W.heap.size ≤ g) : RulD W w' r sv pv cv cs :=
  ⟨(hf.block r (Array.getElem?_eq_some_iff.1 h.blk).1 hr).trans h.blk, own_frx h.own hf hc, h.lt36,
    ⟨hf.os.trans h.fr.os, hf.tape.trans h.fr.tape, hf.output.trans h.fr.output, Nat.le_trans h.fr.size hf.size, fun k hk hn => (hf.block k (Nat.lt_of_lt_of_le hk h.fr.size) (fun hx => by have := hX k hx; omega)).trans (h.fr.block k hk hn)⟩⟩
theorem partD_laid (w : World) (z : Nat) : ∀ (j : Nat) (u : Value), ([Value.int .u64 (z : Int)] : List Value)[j]? = some u → (w.alloc (.cells #[.int .u64 (z : Int)] 183)).cell? ((⟨w.heap.size, 0, none⟩ : Addr).add j) = some u := by
  intro j u hj
  match j, hj with
  | 0, hj => simp at hj; subst hj; simp [Addr.add]
theorem pts_laid (w : World) (x : Value) : ∀ (j : Nat) (u : Value), ([x] : List Value)[j]? = some u → (w.alloc (.cells #[x] 180)).cell? ((⟨w.heap.size, 0, none⟩ : Addr).add j) = some u := by
  intro j u hj
  match j, hj with
  | 0, hj => simp at hj; subst hj; simp [Addr.add]
theorem RulD.push {W w w1 w2 : World} {r : Nat} {sv pv cv v' : Value} {cs : List Nat} {z n : Nat} (h : RulD W w r sv pv cv cs) (hz : z < 2 ^ 36) (hb : Below w.heap.size w w1) (hg : w1.grownBy w2 cv.ownBlock) (hn : n = cs.length + 1) (ho : w2.ownsRow W.heap.size 183 1 v' n (u64s cs ++ [.int .u64 (z : Int)])) :
    RulD W (w2.setCell ⟨r, 2, none⟩ v') r sv pv v' (cs ++ [z]) ∧ Fr (fun k => k = r ∨ cv.ownBlock = some k) w (w2.setCell ⟨r, 2, none⟩ v') := by
  have h1 := h.below hb
  have hb2 : w2.heap[r]? = some (.cells #[sv, pv, cv] 204) := blk_grown h1.blk hg h1.own (by decide)
  have ho2 : w2.ownsRow W.heap.size 183 1 v' (cs ++ [z]).length (u64s (cs ++ [z])) := by
    rw [List.length_append, List.length_singleton, ← hn]
    unfold u64s at *
    rw [List.map_append]; exact ho
  refine ⟨⟨?_, own_set ho2 hb2 (by decide) 2 _, fun y hy => ?_, ?_⟩, ?_⟩
  · rw [heap_setCell_same w2 r 2 _ _ v' hb2]; rfl
  · rcases List.mem_append.1 hy with h3 | h3
    · exact h.lt36 y h3
    · rw [List.mem_singleton.1 h3]; exact hz
  · exact (h1.fr.grown hg (fun k hk => Or.inr ((h1.own.lt k hk).1))).setX (p := ⟨r, 2, none⟩) rfl _
  · exact Fr.setX (X := fun k => k = r ∨ cv.ownBlock = some k) ((Fr.below hb).grown hg (fun k hk => Or.inl (Or.inr hk))) (p := ⟨r, 2, none⟩) (Or.inl rfl) _

set_option maxHeartbeats 3200000 in
set_option maxRecDepth 100000 in
theorem add_any (vs : List MVar) (hva : VarsAll vs) (pt : List (List Nat)) (cs : List Nat) (hcs : cs.length ≤ 100000) (cl : Cla) (W : World) (r : Nat) (sv pv cv u : Value) (w : World) (hR : Rul W r sv pv vs pt) (hD : RulD W w r sv pv cv cs) (hu : LArg w u cl) :
    Calls Tryz.prog 88 #[.pointer (some ⟨r, 0, none⟩), u] w fun e w' => e = .returned (.tuple #[]) ∧ ∃ cv', RulD W w' r sv pv cv' (cs ++ [heldP vs cl]) ∧ Fr (fun k => k = r ∨ cv.ownBlock = some k) w w' := by
  obtain ⟨i0, hi0, hz0, hz1, hz2⟩ := info_parts Tryz.infoPart
  have HD : Hid (RulD W w r sv pv cv cs) := hD
  have hRA := hD.at hR
  have HU : Hid (∀ Y, Below w.heap.size w Y → LArg Y u cl) := fun Y hY => LArg.below hY hu
  have HV : Hid (∀ Y, Below w.heap.size w Y → VArg Y sv vs) := fun Y hY => VArg.below hY hRA.hv
  have HVO : Hid (VarsAll vs) := hva
  have hcv : Hid (∃ a c, cv = .slice a cs.length c) := own_form hD.own
  obtain ⟨ac, cc, rfl⟩ := hcv.out
  have g0 := hRA.c0
  have g2 := hRA.c2
  have gl := hRA.lt
  have gz : w.frozen? ⟨r, 2, none⟩ = false := frz9 hD.blk 2
  obtain ⟨h, hh⟩ : ∃ h, heldP vs cl = h := ⟨_, rfl⟩
  have HH : Hid (heldP vs cl = h) := hh
  have HH36 : Hid (h < 2 ^ 36) := by rw [← hh]; exact of_lt vs hva.1 _
  rw [hh]
  obtain ⟨a, c, rfl, _, _⟩ := hRA.hv
  obtain ⟨a2, c2, rfl, _, _⟩ := hu
  have HHE : Hid (∀ Y, Below w.heap.size w Y → Calls Tryz.prog 128 #[.slice a (List.length vs) c, .slice a2 (List.length cl) c2] Y fun e w' => e = .returned (.int .u64 (h : Int)) ∧ Below Y.heap.size Y w') := fun Y hY => by
    rw [← HH.out]; exact held_any vs HVO.out cl _ _ Y (HV.out _ hY) (HU.out _ hY)
  have HDR : Hid (W.heap.size ≤ w.heap.size) := hD.fr.size
  clear hD hva hh hRA hR hcv
  go_enter Tryz.func88, Tryz.ntmps88
  go_wp2_with fail
  go_region_law
    (first
      | (rw [if_pos (by rfl)]; refine wp_append_own _ _ _ 180 rfl W.heap.size 183 i0 _ 1 8 Tryz.underPart hi0 hz0 hz1 hz2 rfl (by decide) _ _ _ rfl (hw3.alloc _) ⟨w3.heap.size, 0, none⟩ 1 1 [.int .u64 (h : Int)] rfl rfl (partD_laid w3 h) (by intro u hu; simp at hu; subst hu; rfl) ?_ ?_ ?_ ?_; (unfold maxLen; omega); omega; (have := hB3.size; have := HDR.out; simp; omega); intro v4 w4 hown4 hg4 _; have hP := RulD.push HD.out HH36.out (hB3.alloc hB3.size (.cells #[.int .u64 (h : Int)] 183)) hg4 rfl hown4; obtain ⟨a9, b9, hv9⟩ := own_form hown4; subst hv9; have d2 : w4.cell? ⟨r, 2, none⟩ = some (.slice ac cs.length cc) := blk9 (blk_grown (HD.out.below (hB3.alloc hB3.size (.cells #[.int .u64 (h : Int)] 183))).blk hg4 (hw3.alloc _) (by decide)) 2 _ rfl; have z2 : w4.frozen? ⟨r, 2, none⟩ = false := frz9 (blk_grown (HD.out.below (hB3.alloc hB3.size (.cells #[.int .u64 (h : Int)] 183))).blk hg4 (hw3.alloc _) (by decide)) 2)
      | (rw [if_pos (by rfl)]; go_simp; go_at_call 128; refine (HHE.out _ (Below.refl _ _).drew).mono ?_; rintro e w3 ⟨rfl, hb3⟩; have hB3 : Below w.heap.size w w3 := (Below.refl _ _).drew.trans hb3; have c3 : w3.cell? ⟨r, 2, none⟩ = some (.slice ac cs.length cc) := (hB3.cell (p := ⟨r, 2, none⟩) gl).trans g2; have hw3 : w3.ownsRow W.heap.size 183 1 (.slice ac cs.length cc) cs.length (u64s cs) := own_below HD.out.own hB3; have l3 : r < w3.heap.size := Nat.lt_of_lt_of_le gl hB3.size; dsimp only))
  all_goals
    go_wp2
    go_end0
    exact ⟨rfl, _, hP.1, hP.2⟩
end Go.Proofs.YtdjbejlbmaiocagGreatDoor
/-
  MEMORY: literals in a row of one's own. WALK: package fence: Lits.
-/
namespace Go.Proofs.YtdjbejlbmaiocagGreatDoor
open Go.RowKit

theorem Tryz.infoLit : (Tryz.prog.info? 88).map (fun i => (i.zero, i.size, i.bytes)) = some (some (.agg #[.int .i64 0, .int .i64 0, .int .i64 0]), 3, 24) := by kernel_rfl
theorem Tryz.underClauseE : Tryz.prog.underlying 38 = some (.slice 88) := by kernel_rfl
def litCs (t : MLit) : List Value := [.int .i64 t.var, .int .i64 t.op, .int .i64 t.n]
def litsCs (l : Cla) : List Value := l.flatMap litCs
theorem litsCs_len (l : Cla) : (litsCs l).length = l.length * 3 := by
  induction l with
  | nil => rfl
  | cons t r ih => unfold litsCs at *; rw [List.flatMap_cons, List.length_append, ih, List.length_cons]; simp [litCs]; omega
theorem litsCs_get (l : Cla) (i : Nat) (t : MLit) (h : l[i]? = some t) : (litsCs l)[i * 3]? = some (.int .i64 t.var) ∧ (litsCs l)[i * 3 + 1]? = some (.int .i64 t.op) ∧ (litsCs l)[i * 3 + 2]? = some (.int .i64 t.n) := by
  induction l generalizing i with
  | nil => cases h
  | cons a r ih =>
    unfold litsCs at *
    rw [List.flatMap_cons]
    have hl : (litCs a).length = 3 := rfl
    cases i with
    | zero => cases h; exact ⟨rfl, rfl, rfl⟩
    | succ i =>
      obtain ⟨h1, h2, h3⟩ := ih i (by simpa using h)
      refine ⟨?_, ?_, ?_⟩
      · rw [List.getElem?_append_right (by rw [hl]; omega), hl, show (i + 1) * 3 - 3 = i * 3 by omega]; exact h1
      · rw [List.getElem?_append_right (by rw [hl]; omega), hl, show (i + 1) * 3 + 1 - 3 = i * 3 + 1 by omega]; exact h2
      · rw [List.getElem?_append_right (by rw [hl]; omega), hl, show (i + 1) * 3 + 2 - 3 = i * 3 + 2 by omega]; exact h3
/-- A clause in a row of one's own. -/
def LOwn (base : Nat) (w : World) (v : Value) (l : Cla) : Prop := w.ownsRow base 88 3 v l.length (litsCs l)
theorem LOwn.arg {base : Nat} {w : World} {v : Value} {l : Cla} (h : LOwn base w v l) : LArg w v l := by
  have h' : w.ownsRow base 88 3 v l.length (litsCs l) := h
  rcases h'.2 with ⟨rfl, hn⟩ | ⟨g, cap, cur, rfl, hg, hh, hc1, hc2, _, _⟩
  · have : l = [] := List.eq_nil_of_length_eq_zero hn
    subst this
    exact ⟨none, 0, rfl, ⟨Nat.le_refl _, Nat.zero_le _⟩, fun i z hz => by simp at hz⟩
  · refine ⟨_, cap, rfl, ⟨hc1, hc2⟩, fun i t ht => ?_⟩
    have hi : i < l.length := (List.getElem?_eq_some_iff.1 ht).1
    obtain ⟨g1, g2, g3⟩ := litsCs_get l i t ht
    exact ⟨g, 0, rfl, (Array.getElem?_eq_some_iff.1 hh).1, by rw [Nat.zero_add, h'.cellAt (i * 3) (by omega)]; exact g1, by rw [Nat.zero_add, h'.cellAt (i * 3 + 1) (by omega)]; exact g2, by rw [Nat.zero_add, h'.cellAt (i * 3 + 2) (by omega)]; exact g3⟩
theorem lit_laid (w : World) (t : MLit) : ∀ (j : Nat) (u : Value), (litCs t)[j]? = some u → (w.alloc (.cells #[.int .i64 t.var, .int .i64 t.op, .int .i64 t.n] 88)).cell? ((⟨w.heap.size, 0, none⟩ : Addr).add j) = some u := by
  intro j u hj
  match j, hj with
  | 0, hj => simp [litCs] at hj; subst hj; simp [Addr.add]
  | 1, hj => simp [litCs] at hj; subst hj; simp [Addr.add]
  | 2, hj => simp [litCs] at hj; subst hj; simp [Addr.add]

set_option maxHeartbeats 1600000 in
set_option maxRecDepth 100000 in
theorem flits_any (vs : List MVar) (hva : VarsAll vs) (p : Nat) (hp : ∀ i, p.testBit i = true → (wholeP vs).testBit i = true) (sv : Value) (w : World) (hv : VArg w sv vs) (hT : TabT w) :
    Calls Tryz.prog 197 #[sv, .int .u64 p] w fun e w' => ∃ x, e = .returned x ∧ LOwn w.heap.size w' x (litsP vs p) ∧ Below w.heap.size w w' := by
  have HVO : Hid (VarsAll vs) := hva
  have HT : Hid (∀ w', Below w.heap.size w w' → TabT w') := fun w' h => hT.below h
  have HP36 : Hid (p < 2 ^ 36) := by
    show p < 2 ^ 36
    apply Nat.lt_pow_two_of_testBit
    intro i hi
    cases hb : p.testBit i
    · rfl
    · have := hp i hb
      unfold wholeP at this
      rw [Nat.testBit_lt_two_pow (Nat.lt_of_lt_of_le (of_lt vs hva.1 _) (Nat.pow_le_pow_right (by omega) hi))] at this
      cases this
  have HPW : Hid (∀ i, p.testBit i = true → (wholeP vs).testBit i = true) := hp
  obtain ⟨a, c, rfl, hm, hr⟩ := hv
  have HV : Hid (∀ (i : Nat) (t : MVar), vs[i]? = some t → t.name.size ≤ maxLen ∧ ∃ b off, a = some ⟨b, off, none⟩ ∧ b < w.heap.size ∧
    w.cell? ⟨b, off + i * 3, none⟩ = some (.string t.name) ∧ w.cell? ⟨b, off + i * 3 + 1, none⟩ = some (.int .i64 t.lo) ∧ w.cell? ⟨b, off + i * 3 + 2, none⟩ = some (.int .i64 t.hi)) := hr
  unfold maxLen at hm
  obtain ⟨hm1, hm⟩ := hm
  have h6 := hva.1.1
  obtain ⟨i0, hi, hz0, hz1, hz2⟩ := info_parts Tryz.infoLit
  clear hr hva hp hT
  go_enter Tryz.func197, Tryz.ntmps197
  go_wp2_with fail
  go_loopw [5, 6] (fun v r wr => ∃ (q : Nat) (done : Cla), r = .int .u64 (q : Int) ∧ LOwn w.heap.size wr v done ∧ Hid (litsP vs p = done ++ litsP vs q) ∧ Hid (q < 2 ^ 36) ∧ Hid (∀ i, q.testBit i = true → p.testBit i = true) ∧ Below w.heap.size w wr) (fun _ r _ => (intOf r).toNat)
  case atStart => exact ⟨p, [], rfl, World.ownsRow_nil _ _ _ _, rfl, HP36, fun _ h => h, Below.refl _ _⟩
  case round =>
    obtain ⟨q, done, rfl, hown, hsp, hq36, hqs, hbw⟩ := hrel
    have HOW : Hid (LOwn w.heap.size wr u5 done) := hown
    have HBW : Hid (Below w.heap.size w wr) := hbw
    obtain ⟨ao, co, rfl⟩ := own_form (show wr.ownsRow _ _ _ _ _ _ from hown)
    clear hown hbw
    by_cases hq0 : q = 0
    · subst hq0
      have HE : Hid (LOwn w.heap.size wr (.slice ao (List.length done) co) (litsP vs p)) := by
        have : litsP vs p = done := by rw [hsp.out]; simp [litsP, bitsL_zero]
        rw [this]; exact HOW.out
      clear hsp hqs
      go_wp2
      go_ret
      exact ⟨_, rfl, HE.out, HBW.out⟩
    · obtain ⟨hst, hk36⟩ := bitsL_step q hq0 hq36.out
      obtain ⟨k, hk⟩ : ∃ k, Lib.ctz 64 q = k := ⟨_, rfl⟩
      have hbits := low_bits q hq0 (by have := hq36.out; omega)
      have hless := low_less q hq0 (by have := hq36.out; omega)
      obtain ⟨q2, hq2⟩ : ∃ q2, q &&& (q - 1) = q2 := ⟨_, rfl⟩
      have HQS : Hid (∀ i, q2.testBit i = true → p.testBit i = true) := fun i hi => by
        rw [← hq2, (hbits i).2.2, Bool.and_eq_true] at hi
        exact hqs.out i hi.1
      have hkb := (hbits k).2.1 hk.symm
      have hkw := HPW.out k (hqs.out k hkb)
      unfold wholeP ofP at hkw
      rw [testBit_of vs HVO.out.1] at hkw
      simp only [Bool.and_eq_true, decide_eq_true_eq] at hkw
      have hkl : k / 6 < vs.length := hkw.1
      have hbn := HVO.out.2 (k / 6) hkl
      obtain ⟨lo, hlo⟩ : ∃ lo, (varAt vs (k / 6)).lo = lo := ⟨_, rfl⟩
      have HN : Hid (litsP vs p = (done ++ [⟨((k / 6 : Nat) : Int), 3, lo + ((k % 6 : Nat) : Int)⟩]) ++ litsP vs q2) := by
        show _ = _
        rw [hsp.out, List.append_assoc]
        congr 1
        unfold litsP
        rw [hst, hk, hq2, List.map_cons, hlo]; rfl
      rw [hk] at hk36
      rw [hq2] at hless
      obtain ⟨_, b, off, hax, hb, _, c1, _⟩ := HV.out (k / 6) _ (var_at hkl)
      subst hax
      have hc1 := (HBW.out.cell (p := ⟨b, off + k / 6 * 3 + 1, none⟩) hb).trans c1
      rw [hlo] at hc1 hbn
      have HK : Hid (Lib.ctz 64 q = k) := hk
      have hdl : done.length ≤ 36 := by
        have h1 := lits_len vs p
        rw [hsp.out, List.length_append] at h1
        omega
      have HQ36 : Hid (q < 2 ^ 36) := hq36.out
      have HQ2 : Hid (q2 < 2 ^ 36) := by have := hq36.out; show _ < _; omega
      have hsub : IntKind.u64.wrap ((q : Int) - 1) = ((q - 1 : Nat) : Int) := by rw [IntKind.wrap_u64]; have := hq36.out; omega
      have hand := bits_and_u64_nat q (q - 1) (by have := hq36.out; omega) (by have := hq36.out; omega)
      rw [hq2] at hand
      have hne : ((q : Int) != 0) = true := by simpa using hq0
      have HLS : Hid (q2 < q) := hless
      have hsm : -100 ≤ lo + ((k % 6 : Nat) : Int) ∧ lo + ((k % 6 : Nat) : Int) ≤ 100 := by omega
      clear hst hbits hqs hq36 hkb hkw hsp hlo hq2 hk c1 hless hq0
      go_wp2_with fail
      refine (tz64_any q (by have := HQ36.out; omega) _ (HT.out _ HBW.out)).mono ?_
      rintro e w1 ⟨rfl, rfl⟩
      rw [HK.out]
      obtain ⟨t, ht⟩ : ∃ t : MLit, t = ⟨(k : Int) / 6, 3, lo + (k : Int) % 6⟩ := ⟨_, rfl⟩
      have hown : w1.ownsRow w.heap.size 88 3 (.slice ao (List.length done) co) (List.length done) (litsCs done) := HOW.out
      have HN2 : Hid (litsP vs p = (done ++ [t]) ++ litsP vs q2) := by show _ = _; rw [ht]; exact HN.out
      have hbs := HBW.out.size
      go_wp2_with (at_builtin; refine wpList_append_own _ rfl _ _ 38 rfl w.heap.size 88 i0 (.agg #[.int .i64 0, .int .i64 0, .int .i64 0]) 3 24 Tryz.underClauseE hi hz0 hz1 hz2 rfl (by decide) _ _ _ rfl (hown.alloc _) ⟨w1.heap.size, 0, none⟩ 1 1 (litCs ⟨(k : Int) / 6, 3, lo + (k : Int) % 6⟩) rfl rfl ?c1 ?c2 ?c3 ?c4 ?c5 ?_)
      case c1 => exact lit_laid w1 ⟨(k : Int) / 6, 3, lo + (k : Int) % 6⟩
      case c2 => intro u hu; simp [litCs] at hu; rcases hu with rfl | rfl | rfl <;> rfl
      case c3 => unfold maxLen; omega
      case c4 => omega
      case c5 => simp; omega
      intro v3 w3 hown3 hgrow _
      have HOW3 : Hid (LOwn w.heap.size w3 v3 (done ++ [t])) := by
        show World.ownsRow _ _ _ _ _ _ _
        unfold litsCs
        rw [List.length_append, List.flatMap_append, ht]
        simpa [litsCs] using hown3
      have HB3 : Hid (Below w.heap.size w w3) := (HBW.out.alloc hbs _).grown hgrow (by simp; omega) (fun g h => (hown.lt g h).1)
      clear hown3 hgrow hown hc1
      go_wp2
      go_roundw
      case rel => exact ⟨q2, done ++ [t], rfl, HOW3.out, HN2, HQ2, HQS, HB3.out⟩
      case measure => simp [intOf]; exact HLS.out
end Go.Proofs.YtdjbejlbmaiocagGreatDoor
/-
  MEMORY: literals are appended to a row of one's own; a clause is cloned.
-/
namespace Go.Proofs.YtdjbejlbmaiocagGreatDoor
open Go.RowKit

theorem append_no_lit (T : TypeId) (hT : Tryz.prog.underlying T = some (.slice 88)) (w : World) (ty : TypeId) (base n c : Nat) (v : Value) (xs : List Value) (hown : w.ownsRow base 88 3 v n xs) :
    (Builtin.append_ #[T, T] ty #[v, .slice none 0 c]).run Tryz.prog w = .ok v w := by
  obtain ⟨i0, hi, hz0, hz1, hz2⟩ := info_parts Tryz.infoLit
  rcases hown.2 with ⟨rfl, rfl⟩ | ⟨g, cap, cur, rfl, _, _, hnc, _⟩
  · simp [Builtin.append_, run_underlying hT, sizeOf, typeInfo, hi, Builtin.lenOf, Builtin.firstCells]
  · simp [Builtin.append_, run_underlying hT, sizeOf, typeInfo, hi, Builtin.lenOf, Builtin.firstCells, hnc, storeCells]
theorem lits_one (l : Cla) : ∀ u ∈ litsCs l, u.oneCell' = true := by
  intro u hu
  obtain ⟨t, _, ht⟩ := List.mem_flatMap.1 hu
  simp [litCs] at ht
  rcases ht with rfl | rfl | rfl <;> rfl
theorem litsCs_back (l : Cla) (j : Nat) (y : Value) (h : (litsCs l)[j]? = some y) : ∃ (i : Nat) (t : MLit), l[i]? = some t ∧ ((j = i * 3 ∧ y = .int .i64 t.var) ∨ (j = i * 3 + 1 ∧ y = .int .i64 t.op) ∨ (j = i * 3 + 2 ∧ y = .int .i64 t.n)) := by
  have hj : j < l.length * 3 := by rw [← litsCs_len]; exact (List.getElem?_eq_some_iff.1 h).1
  have hi : j / 3 < l.length := by omega
  obtain ⟨g0, g1, g2⟩ := litsCs_get l (j / 3) l[j / 3] (by simp [hi])
  refine ⟨j / 3, l[j / 3], by simp [hi], ?_⟩
  rcases (by omega : j = j / 3 * 3 ∨ j = j / 3 * 3 + 1 ∨ j = j / 3 * 3 + 2) with hq | hq | hq
  · rw [← hq, h] at g0; exact Or.inl ⟨hq, Option.some.inj g0⟩
  · rw [← hq, h] at g1; exact Or.inr (Or.inl ⟨hq, Option.some.inj g1⟩)
  · rw [← hq, h] at g2; exact Or.inr (Or.inr ⟨hq, Option.some.inj g2⟩)

/-- Literals are appended, whatever list they lie in. -/
theorem wpList_append_lits (T : TypeId) (hT : Tryz.prog.underlying T = some (.slice 88)) {w : World} {ops : Array Oper} {rest : List Oper} {o : Oper} {a : Act} {Q : Exit → Act → World → Prop} (hgd : o.guard = none) (s x : Operand)
    (ho : o.op = .call { callee := .builtin .append, args := #[s, x], argTypes := #[T, T] }) (base : Nat)
    (v : Value) (xs : Cla) (hs : a.eval s = v) (hown : LOwn base w v xs)
    (u : Value) (l : Cla) (hx : a.eval x = u) (hl : LArg w u l) (hn : xs.length + l.length ≤ 1000) (hbase : base ≤ w.heap.size)
    (h : ∀ v' w', LOwn base w' v' (xs ++ l) → w.grownBy w' v.ownBlock → wpList Tryz.prog ops Q rest (a.put o.dst v') w') : wpList Tryz.prog ops Q (o :: rest) a w := by
  obtain ⟨i0, hi, hz0, hz1, hz2⟩ := info_parts Tryz.infoLit
  obtain ⟨q, c, rfl, hm, hc⟩ := hl
  have hown' : w.ownsRow base 88 3 v xs.length (litsCs xs) := hown
  cases q with
  | none =>
    have hl0 : l = [] := by
      cases l with
      | nil => rfl
      | cons z r => obtain ⟨b, off, hq, _⟩ := hc 0 z rfl; cases hq
    subst hl0
    refine wpList_plain hgd fun K hK => ?_
    have hr := append_no_lit T hT w o.type base xs.length c v _ hown'
    unfold Oper.wp execOp
    simp only [ho, resolve, invoke, builtin, Sem.run_bind, Sem.run_pure, Result.andThen_ok, List.map_toArray, List.map_cons, List.map_nil, hs, hx, List.length_nil, hr]
    exact hK _ _ (h v w (by rw [List.append_nil]; exact hown) ⟨rfl, rfl, rfl, Nat.le_refl _, fun _ _ _ => rfl⟩)
  | some ad =>
    refine wpList_append_own w hgd s x T ho base 88 i0 (.agg #[.int .i64 0, .int .i64 0, .int .i64 0]) 3 24 hT hi hz0 hz1 hz2 rfl (by decide) v xs.length _ hs hown' ad l.length c (litsCs l) hx (litsCs_len l) ?_ (lits_one l) (by unfold maxLen; omega) (by omega) hbase ?_
    · intro j y hy
      obtain ⟨i, t, ht, hcase⟩ := litsCs_back l j y hy
      obtain ⟨b, off, hq, _, c0, c1, c2⟩ := hc i t ht
      cases hq
      rw [add_at]
      rcases hcase with ⟨rfl, rfl⟩ | ⟨rfl, rfl⟩ | ⟨rfl, rfl⟩
      · exact c0
      · rw [← Nat.add_assoc]; exact c1
      · rw [← Nat.add_assoc]; exact c2
    · intro v' w' h1 h2 h3
      refine h v' w' ?_ h2
      show w'.ownsRow _ _ _ _ _ _
      unfold litsCs at *
      rw [List.length_append, List.flatMap_append]
      exact h1
theorem nil_cla (w : World) : LArg w (.slice none 0 0) [] := ⟨none, 0, rfl, ⟨Nat.le_refl _, Nat.zero_le _⟩, fun i z hz => by simp at hz⟩
theorem lit_nil {w : World} {l : Cla} {n c : Nat} (h : LArg w (.slice none n c) l) : l = [] := by
  obtain ⟨a, c2, he, _, hr⟩ := h
  cases l with
  | nil => rfl
  | cons z r =>
    obtain ⟨b, off, hq, _⟩ := hr 0 z rfl
    rw [hq] at he
    cases he
theorem own_lower {base base' : Nat} {w : World} {v : Value} {l : Cla} (hb : base' ≤ base) (h : LOwn base w v l) : LOwn base' w v l := World.ownsRow.mono h hb
theorem own_made_lit (w : World) : LOwn w.heap.size (w.alloc (.cells #[] 88)) (.slice (some ⟨w.heap.size, 0, none⟩) 0 0) [] := World.ownsRow_made w #[] 0 (Nat.le_refl _) (Nat.zero_le _) (by simp)

theorem under_clone_cla : Tryz.prog.underlying 38 = some (.slice 88) := by kernel_rfl
set_option maxHeartbeats 800000 in
set_option maxRecDepth 100000 in
theorem clone_cla (l : Cla) (hl : l.length ≤ 900) (u : Value) (w : World) (hu : LArg w u l) :
    Calls Tryz.prog 257 #[u] w fun e w' => ∃ x, e = .returned x ∧ LOwn w.heap.size w' x l ∧ Below w.heap.size w w' := by
  have HU : Hid (∀ w', Below w.heap.size w w' → LArg w' u l) := fun w' h => LArg.below h hu
  have q22 : ∀ (w : World) (a : Option Addr) (n c n' c' : Nat), (binOp .eql 38 (.slice a n c) (.slice none n' c')).run Tryz.prog w = .ok (.bool a.isNone) w := fun w a n c n' c' => Lib.run_eql_slice_nil w _ _ a n c n' c' under_clone_cla
  obtain ⟨a, c, he, _, _⟩ := id hu
  subst he
  cases a with
  | none =>
    have := lit_nil hu
    subst this
    clear hu HU
    go_enter Tryz.func257, Tryz.ntmps257
    go_wp2
    go_ret
    exact ⟨_, rfl, World.ownsRow_nil _ _ _ _, Below.refl _ _⟩
  | some ad =>
    have HL : Hid (l.length ≤ 900) := hl
    clear hu hl
    go_enter Tryz.func257, Tryz.ntmps257
    go_wp2_with (at_builtin; refine wpList_append_lits 38 under_clone_cla rfl _ _ rfl w.heap.size _ [] rfl (own_made_lit w) _ l rfl (HU.out _ (below_alloc _ _)) ?c1 ?c2 ?_)
    case c1 => have := HL.out; simp; omega
    case c2 => simp
    intro v3 w3 hown3 hgrow
    have HB3 : Hid (Below w.heap.size w w3) := (below_alloc _ _).grown hgrow (by simp) (by intro k hk; simp [Value.ownBlock] at hk; omega)
    have HO3 : Hid (LOwn w.heap.size w3 v3 l) := hown3
    obtain ⟨av, cv, rfl⟩ := own_form (show w3.ownsRow _ _ _ _ _ _ from hown3)
    clear hown3 hgrow
    go_wp2
    go_ret
    exact ⟨_, rfl, HO3.out, HB3.out⟩
theorem under_clone_lits : Tryz.prog.underlying 37 = some (.slice 88) := by kernel_rfl
set_option maxHeartbeats 800000 in
set_option maxRecDepth 100000 in
theorem clone_lits (l : Cla) (hl : l.length ≤ 900) (u : Value) (w : World) (hu : LArg w u l) :
    Calls Tryz.prog 279 #[u] w fun e w' => ∃ x, e = .returned x ∧ LOwn w.heap.size w' x l ∧ Below w.heap.size w w' := by
  have HU : Hid (∀ w', Below w.heap.size w w' → LArg w' u l) := fun w' h => LArg.below h hu
  have q22 : ∀ (w : World) (a : Option Addr) (n c n' c' : Nat), (binOp .eql 37 (.slice a n c) (.slice none n' c')).run Tryz.prog w = .ok (.bool a.isNone) w := fun w a n c n' c' => Lib.run_eql_slice_nil w _ _ a n c n' c' under_clone_lits
  obtain ⟨a, c, he, _, _⟩ := id hu
  subst he
  cases a with
  | none =>
    have := lit_nil hu
    subst this
    clear hu HU
    go_enter Tryz.func279, Tryz.ntmps279
    go_wp2
    go_ret
    exact ⟨_, rfl, World.ownsRow_nil _ _ _ _, Below.refl _ _⟩
  | some ad =>
    have HL : Hid (l.length ≤ 900) := hl
    clear hu hl
    go_enter Tryz.func279, Tryz.ntmps279
    go_wp2_with (at_builtin; refine wpList_append_lits 37 under_clone_lits rfl _ _ rfl w.heap.size _ [] rfl (own_made_lit w) _ l rfl (HU.out _ (below_alloc _ _)) ?c1 ?c2 ?_)
    case c1 => have := HL.out; simp; omega
    case c2 => simp
    intro v3 w3 hown3 hgrow
    have HB3 : Hid (Below w.heap.size w w3) := (below_alloc _ _).grown hgrow (by simp) (by intro k hk; simp [Value.ownBlock] at hk; omega)
    have HO3 : Hid (LOwn w.heap.size w3 v3 l) := hown3
    obtain ⟨av, cv, rfl⟩ := own_form (show w3.ownsRow _ _ _ _ _ _ from hown3)
    clear hown3 hgrow
    go_wp2
    go_ret
    exact ⟨_, rfl, HO3.out, HB3.out⟩
end Go.Proofs.YtdjbejlbmaiocagGreatDoor
/-
  MEMORY: rows of elements of several cells: one is taken out, a row is copied.
-/
namespace Go.Proofs.YtdjbejlbmaiocagGreatDoor
open Go.RowKit

/-- Cells are written one behind the other. -/
def setMany (xs : List Value) : Nat → List Value → List Value
  | _, [] => xs
  | o, v :: r => setMany (xs.set o v) (o + 1) r
theorem setMany_get (j : Nat) : ∀ (vs xs : List Value) (o : Nat), (setMany xs o vs)[j]? = if o ≤ j ∧ j < o + vs.length ∧ j < xs.length then vs[j - o]? else xs[j]?
  | [], xs, o => by
    unfold setMany
    rw [if_neg (by simp; omega)]
  | v :: r, xs, o => by
    unfold setMany
    rw [setMany_get j r]
    by_cases h : o = j
    · subst h
      rw [if_neg (by omega), List.getElem?_set]
      by_cases hl : o < xs.length
      · rw [if_pos rfl, if_pos hl, if_pos ⟨Nat.le_refl _, by simp, hl⟩]; simp
      · rw [if_pos rfl, if_neg hl, if_neg (by omega)]
        rw [List.getElem?_eq_none (by omega)]
    · rw [List.getElem?_set_ne h]
      simp only [List.length_set, List.length_cons]
      by_cases hc : o + 1 ≤ j ∧ j < o + 1 + r.length ∧ j < xs.length
      · rw [if_pos hc, if_pos (by omega), show j - o = (j - (o + 1)) + 1 by omega, List.getElem?_cons_succ]
      · rw [if_neg hc, if_neg (by omega)]
theorem own_setCells {base : Nat} {e : TypeId} {size g n cap : Nat} : ∀ (vs xs : List Value) (o : Nat) (w : World), w.ownsRow base e size (.slice (some ⟨g, 0, none⟩) n cap) n xs → base ≤ g →
    (w.setCells g o vs).ownsRow base e size (.slice (some ⟨g, 0, none⟩) n cap) n (setMany xs o vs) ∧ Below base w (w.setCells g o vs)
  | [], xs, o, w, h, _ => ⟨h, Below.refl _ _⟩
  | v :: r, xs, o, w, h, hg => by
    obtain ⟨h1, h2⟩ := h.stored o v
    obtain ⟨h3, h4⟩ := own_setCells r _ (o + 1) _ h1 hg
    refine ⟨h3, Below.trans ?_ h4⟩
    exact (Below.refl base w).setCell hg v
theorem own_shrink {base : Nat} {e : TypeId} {size g n cap : Nat} {xs : List Value} {w : World} (k : Nat) (hk : k ≤ n) (h : w.ownsRow base e size (.slice (some ⟨g, 0, none⟩) n cap) n xs) : w.ownsRow base e size (.slice (some ⟨g, 0, none⟩) k cap) k (xs.take (k * size)) := by
  have hx := h.1
  have hm : k * size ≤ n * size := Nat.mul_le_mul_right _ hk
  rcases h.2 with ⟨h', _⟩ | ⟨g', cap', cur, h', hb, hg, hnc, hcm, hcs, htake⟩
  · simp at h'
  · simp only [Value.slice.injEq, Option.some.injEq, Addr.mk.injEq, and_true, true_and] at h'
    obtain ⟨rfl, rfl⟩ := h'
    refine ⟨by rw [List.length_take, hx]; omega, .inr ⟨g, cap, cur, rfl, hb, hg, by omega, hcm, hcs, ?_⟩⟩
    rw [← htake, List.take_take]
    congr 1
    omega
theorem flat_len (s : Nat) : ∀ (ch : List (List Value)), (∀ c ∈ ch, c.length = s) → ch.flatten.length = ch.length * s
  | [], _ => by simp
  | c :: r, h => by
    rw [List.flatten_cons, List.length_append, flat_len s r (fun x hx => h x (List.mem_cons_of_mem _ hx)), h c (List.mem_cons_self ..), List.length_cons, Nat.add_mul]
    omega
theorem flat_take (s : Nat) : ∀ (k : Nat) (ch : List (List Value)), (∀ c ∈ ch, c.length = s) → ch.flatten.take (k * s) = (ch.take k).flatten
  | 0, ch, _ => by simp
  | k + 1, [], _ => by simp
  | k + 1, c :: r, h => by
    rw [List.flatten_cons, List.take_succ_cons, List.flatten_cons, ← flat_take s k r (fun x hx => h x (List.mem_cons_of_mem _ hx)), List.take_append, h c (List.mem_cons_self ..), show (k + 1) * s - s = k * s by rw [Nat.add_mul]; omega, List.take_of_length_le]
    rw [h c (List.mem_cons_self ..), Nat.add_mul]; omega
theorem flat_drop (s : Nat) : ∀ (k : Nat) (ch : List (List Value)), (∀ c ∈ ch, c.length = s) → ch.flatten.drop (k * s) = (ch.drop k).flatten
  | 0, ch, _ => by simp
  | k + 1, [], _ => by simp
  | k + 1, c :: r, h => by
    rw [List.flatten_cons, List.drop_succ_cons, ← flat_drop s k r (fun x hx => h x (List.mem_cons_of_mem _ hx)), List.drop_append, h c (List.mem_cons_self ..), show (k + 1) * s - s = k * s by rw [Nat.add_mul]; omega, List.drop_eq_nil_of_le]
    · rfl
    · rw [h c (List.mem_cons_self ..), Nat.add_mul]; omega
/-- What lies there when one is taken out: the others, one behind the other. -/
theorem erased_cells (s : Nat) (ch : List (List Value)) (hs : ∀ c ∈ ch, c.length = s) (k : Nat) (hk : k < ch.length) (z : List Value) :
    (setMany (setMany ch.flatten (k * s) (ch.drop (k + 1)).flatten) ((ch.length - 1) * s) z).take ((ch.length - 1) * s) = (ch.eraseIdx k).flatten := by
  have hl := flat_len s ch hs
  have hd : (ch.drop (k + 1)).flatten.length = (ch.length - (k + 1)) * s := by
    rw [flat_len s _ (fun c hc => hs c (List.mem_of_mem_drop hc)), List.length_drop]
  have ht : (ch.take k).flatten.length = k * s := by
    rw [flat_len s _ (fun c hc => hs c (List.mem_of_mem_take hc)), List.length_take, Nat.min_eq_left (by omega)]
  have e1 : (ch.length - 1) * s = k * s + (ch.length - (k + 1)) * s := by rw [← Nat.add_mul]; congr 1; omega
  have e2 : (ch.length - 1) * s ≤ ch.length * s := Nat.mul_le_mul_right _ (by omega)
  apply List.ext_getElem?
  intro j
  rw [List.eraseIdx_eq_take_drop_succ, List.flatten_append]
  by_cases hj : j < (ch.length - 1) * s
  · rw [List.getElem?_take, if_pos hj, setMany_get, if_neg (by omega), setMany_get]
    by_cases hjk : j < k * s
    · rw [if_neg (by omega), List.getElem?_append_left (by rw [ht]; exact hjk), ← flat_take s k ch hs, List.getElem?_take, if_pos hjk]
    · rw [if_pos ⟨by omega, by rw [hd]; omega, by rw [hl]; omega⟩, List.getElem?_append_right (by rw [ht]; omega), ht]
  · rw [List.getElem?_eq_none (by rw [List.length_take]; omega), List.getElem?_eq_none (by rw [List.length_append, ht, hd]; omega)]
theorem run_clear_one {P : Program} (w : World) (t e ty : TypeId) (z : Value) (zs : List Value) (ht : P.underlying t = some (.slice e)) (hv : ∀ w, (zeroValue e).run P w = .ok z w) (hz : (Builtin.zeroCells z.cells 1).toList = zs) (h1 : ∀ u ∈ zs, u.oneCell' = true) (b o c : Nat)
    (hc : ∀ j, j < zs.length → (w.cell? ⟨b, o + j, none⟩).isSome = true) (hf : ∀ j, j < zs.length → w.frozen? ⟨b, o + j, none⟩ = false) :
    (Builtin.clear_ #[t] ty #[.slice (some ⟨b, o, none⟩) 1 c]).run P w = .ok (.tuple #[]) (w.setCells b o zs) := by
  have hst := run_storeCells_cells (P := P) b o zs 0 w (by simpa using hc) (by simpa using hf) h1
  simp only [Nat.add_zero] at hst
  simp [Builtin.clear_, run_underlying ht, hv, hz, hst]
end Go.Proofs.YtdjbejlbmaiocagGreatDoor
/-
  WALKS: slices.Clone and slices.Delete of one element, over elements of several cells.
-/
namespace Go.Proofs.YtdjbejlbmaiocagGreatDoor
open Go.RowKit

/-- A row of elements, each told by its cells. -/
def EArg (w : World) (v : Value) (ch : List (List Value)) : Prop :=
  ∃ a c, v = .slice a ch.length c ∧ (ch.length ≤ c ∧ c ≤ maxLen) ∧ ∀ (j : Nat) (u : Value), ch.flatten[j]? = some u → ∃ b off, a = some ⟨b, off, none⟩ ∧ b < w.heap.size ∧ w.cell? ⟨b, off + j, none⟩ = some u
theorem EArg.below {w w' : World} {v : Value} {ch : List (List Value)} (hb : Below w.heap.size w w') (h : EArg w v ch) : EArg w' v ch := by
  obtain ⟨a, c, hv, hm, hr⟩ := h
  refine ⟨a, c, hv, hm, fun j u hu => ?_⟩
  obtain ⟨b, off, ha, hlt, hc⟩ := hr j u hu
  exact ⟨b, off, ha, Nat.lt_of_lt_of_le hlt hb.size, (hb.cell (p := ⟨b, off + j, none⟩) hlt).trans hc⟩
theorem own_earg {w : World} {base s : Nat} {e : TypeId} {v : Value} {ch : List (List Value)} (hs : ∀ c ∈ ch, c.length = s) (h : w.ownsRow base e s v ch.length ch.flatten) : EArg w v ch := by
  have hl := flat_len s ch hs
  rcases h.2 with ⟨rfl, hn⟩ | ⟨g, cap, cur, rfl, hg, hh, hc1, hc2, _, _⟩
  · have : ch = [] := List.eq_nil_of_length_eq_zero hn
    subst this
    exact ⟨none, 0, rfl, ⟨Nat.le_refl _, Nat.zero_le _⟩, fun j u hu => by simp at hu⟩
  · refine ⟨_, cap, rfl, ⟨hc1, hc2⟩, fun j u hu => ?_⟩
    have hj := (List.getElem?_eq_some_iff.1 hu).1
    exact ⟨g, 0, rfl, (Array.getElem?_eq_some_iff.1 hh).1, by rw [Nat.zero_add, h.cellAt j (by omega)]; exact hu⟩
theorem Tryz.infoReason : (Tryz.prog.info? 287).map (fun i => (i.zero, i.size, i.bytes)) = some (some (.agg #[.int .i64 0, .int .i64 0, .slice none 0 0, .int .u64 0]), 4, 48) := by kernel_rfl
theorem zero_lit (w : World) : (zeroValue 88).run Tryz.prog w = .ok (.agg #[.int .i64 0, .int .i64 0, .int .i64 0]) w := by
  obtain ⟨i0, hi, hz0, hz1, hz2⟩ := info_parts Tryz.infoLit
  simp [zeroValue, typeInfo, hi, hz0]
theorem zero_reason (w : World) : (zeroValue 287).run Tryz.prog w = .ok (.agg #[.int .i64 0, .int .i64 0, .slice none 0 0, .int .u64 0]) w := by
  obtain ⟨i0, hi, hz0, hz1, hz2⟩ := info_parts Tryz.infoReason
  simp [zeroValue, typeInfo, hi, hz0]
theorem under_reasons : Tryz.prog.underlying 284 = some (.slice 287) := by kernel_rfl

set_option maxHeartbeats 1600000 in
set_option maxRecDepth 100000 in
theorem del_lits (ch : List (List Value)) (hs : ∀ c ∈ ch, c.length = 3) (h1 : ∀ c ∈ ch, ∀ u ∈ c, u.oneCell' = true) (k : Nat) (hk : k < ch.length) (base : Nat) (v : Value) (w : World) (h : w.ownsRow base 88 3 v ch.length ch.flatten) :
    Calls Tryz.prog 280 #[v, .int .i64 k, .int .i64 ((k : Int) + 1)] w fun e w' => ∃ x, e = .returned x ∧ w'.ownsRow base 88 3 x (ch.eraseIdx k).length (ch.eraseIdx k).flatten ∧ Below base w w' := by
  obtain ⟨i0, hi0, hz0, hz1, hz2⟩ := info_parts Tryz.infoLit
  have hl := flat_len 3 ch hs
  have hEL : (ch.eraseIdx k).length = ch.length - 1 := List.length_eraseIdx_of_lt hk
  rcases h.2 with ⟨rfl, hn⟩ | ⟨g, cap, cur, rfl, hg, hh, hc1, hc2, _, _⟩
  · omega
  obtain ⟨n, hn⟩ : ∃ n, ch.length = n + 1 := ⟨ch.length - 1, by omega⟩
  have hED := erased_cells 3 ch hs k hk [.int .i64 0, .int .i64 0, .int .i64 0]
  obtain ⟨news, hnews⟩ : ∃ news, (ch.drop (k + 1)).flatten = news := ⟨_, rfl⟩
  have hnl : news.length = (n - k) * 3 := by
    rw [← hnews, flat_len 3 _ (fun c hc => hs c (List.mem_of_mem_drop hc)), List.length_drop, hn]; congr 1; omega
  have hn1 : ∀ u ∈ news, u.oneCell' = true := by
    intro u hu
    rw [← hnews] at hu
    obtain ⟨c, hc, hu⟩ := List.mem_flatten.1 hu
    exact h1 c (List.mem_of_mem_drop hc) u hu
  rw [hn] at h hEL hED
  rw [hnews, show n + 1 - 1 = n by omega] at hED
  rw [show n + 1 - 1 = n by omega] at hEL
  have HD : Hid (w.drew.ownsRow base 88 3 (.slice (some ⟨g, 0, none⟩) (n + 1) cap) (n + 1) ch.flatten) := h
  obtain ⟨hs1, hb1⟩ := own_setCells (base := base) news ch.flatten (k * 3) w.drew HD.out hg
  obtain ⟨W1, hW1⟩ : ∃ W1, W1 = w.drew.setCells g (k * 3) news := ⟨_, rfl⟩
  rw [← hW1] at hs1 hb1
  have HW : Hid (W1 = w.drew.setCells g (k * 3) news) := hW1
  have HS1 : Hid (W1.ownsRow base 88 3 (.slice (some ⟨g, 0, none⟩) (n + 1) cap) (n + 1) (setMany ch.flatten (k * 3) news)) := hs1
  obtain ⟨hs2, hb2⟩ := own_setCells (base := base) [.int .i64 0, .int .i64 0, .int .i64 0] _ (n * 3) W1 hs1 hg
  have HFIN : Hid ((W1.setCells g (n * 3) [.int .i64 0, .int .i64 0, .int .i64 0]).ownsRow base 88 3 (.slice (some ⟨g, 0, none⟩) n cap) (ch.eraseIdx k).length (ch.eraseIdx k).flatten) := by
    show World.ownsRow _ _ _ _ _ _ _
    rw [hEL, ← hED]
    exact own_shrink n (by omega) hs2
  have HBF : Hid (Below base w (W1.setCells g (n * 3) [.int .i64 0, .int .i64 0, .int .i64 0])) := ((Below.refl base w).drew).trans (hb1.trans hb2)
  have hmk : k * 3 ≤ n * 3 := Nat.mul_le_mul_right _ (by omega)
  have hcl : ∀ ty, (Builtin.clear_ #[37] ty #[.slice (some ⟨g, n * 3, none⟩) 1 (cap - n)]).run Tryz.prog W1 = .ok (.tuple #[]) (W1.setCells g (n * 3) [.int .i64 0, .int .i64 0, .int .i64 0]) :=
    fun ty => run_clear_one W1 _ _ ty _ [.int .i64 0, .int .i64 0, .int .i64 0] under_clone_lits zero_lit (by kernel_rfl) (by intro u hu; simp at hu; rcases hu with rfl | rfl | rfl | rfl <;> rfl) g (n * 3) _ (fun j hj => by
      have hjj : n * 3 + j < (n + 1) * 3 := by simp at hj; omega
      rw [HS1.out.cellAt _ hjj]
      have : n * 3 + j < (setMany ch.flatten (k * 3) news).length := by rw [HS1.out.1]; exact hjj
      rw [List.getElem?_eq_getElem this]; rfl) (fun j hj => HS1.out.frozenAt _)
  have s1 : Hid (news.length = (n - k) * 3) := hnl
  have s2 : Hid (∀ u ∈ news, u.oneCell' = true) := hn1
  have s3 : Hid (∀ t, t < news.length → (w.drew.cell? ⟨g, 0 + k * 3 + t, none⟩).isSome = true ∧ w.drew.frozen? ⟨g, 0 + k * 3 + t, none⟩ = false) := by
    intro t ht
    rw [hnl] at ht
    have e0 : (n - k) * 3 + k * 3 = n * 3 := by rw [← Nat.add_mul]; congr 1; omega
    have htt : k * 3 + t < (n + 1) * 3 := by rw [Nat.add_mul]; omega
    rw [Nat.zero_add, HD.out.cellAt _ htt, HD.out.frozenAt]
    have : k * 3 + t < ch.flatten.length := by rw [HD.out.1]; exact htt
    rw [List.getElem?_eq_getElem this]
    exact ⟨rfl, rfl⟩
  obtain ⟨A, hA, hsrc⟩ : ∃ A : Addr, (if cap = k + 1 then some (⟨g, 0, none⟩ : Addr) else some ⟨g, (k + 1) * 3, none⟩) = some A ∧ Hid (∀ t u, news[t]? = some u → w.drew.cell? (A.add t) = some u) := by
    by_cases hck : cap = k + 1
    · refine ⟨⟨g, 0, none⟩, by simp [hck], fun t u hu => ?_⟩
      have h0 : news.length = 0 := by rw [hnl, show n - k = 0 by omega, Nat.zero_mul]
      rw [List.length_eq_zero_iff.1 h0] at hu
      simp at hu
    · refine ⟨⟨g, (k + 1) * 3, none⟩, by simp [hck], fun t u hu => ?_⟩
      have ht := (List.getElem?_eq_some_iff.1 hu).1
      rw [hnl] at ht
      have e0 : (n - k) * 3 + k * 3 = n * 3 := by rw [← Nat.add_mul]; congr 1; omega
      have htt : (k + 1) * 3 + t < (n + 1) * 3 := by rw [Nat.add_mul, Nat.add_mul]; omega
      rw [add_at, HD.out.cellAt _ htt]
      rw [← hnews, ← flat_drop 3 _ ch hs, List.getElem?_drop] at hu
      exact hu
  have hkc : k + 1 ≤ cap := by omega
  unfold maxLen at hc2
  rw [hn]
  have hkn : k ≤ n := by omega
  have hcn : n + 1 ≤ cap := by omega
  clear hc1 hW1 hs1 hb1 hs2 hb2 hED hnews hnl hn1 h1 hs hl h hEL hh hz0 hz2 hn hk hmk
  go_enter Tryz.func280, Tryz.ntmps280
  have hkk : k + (n - k) = n := by omega
  have hlen : n + 1 - (k + 1) = n - k := by omega
  have hroom : k + (n - k) ≤ cap := by omega
  have hic : k ≤ cap := by omega
  have hk0 : (0 : Int) ≤ (k : Int) + 1 := by omega
  go_wp2_with fail
  go_region_law (refine step_append_room rfl (.tmp 22) (.tmp 25) 37 rfl 88 i0 3 under_clone_lits hi0 hz1 g 0 k cap (by simp [Act.eval, Act.put]) A (n - k) (cap - (k + 1)) news (by simp [Act.eval, Act.put]) s1.out hsrc.out s2.out hroom s3.out ?_; rw [Nat.zero_add, ← HW.out, hkk])
  have hne : ¬ cap = n := by omega
  have hn0 : (0 : Int) ≤ (n : Int) + 1 := by omega
  have hnc : n ≤ cap := by omega
  go_wp2
  go_ret
  exact ⟨_, rfl, HFIN.out, HBF.out⟩
set_option maxHeartbeats 1600000 in
set_option maxRecDepth 100000 in
theorem del_reasons (ch : List (List Value)) (hs : ∀ c ∈ ch, c.length = 4) (h1 : ∀ c ∈ ch, ∀ u ∈ c, u.oneCell' = true) (k : Nat) (hk : k < ch.length) (base : Nat) (v : Value) (w : World) (h : w.ownsRow base 287 4 v ch.length ch.flatten) :
    Calls Tryz.prog 282 #[v, .int .i64 k, .int .i64 ((k : Int) + 1)] w fun e w' => ∃ x, e = .returned x ∧ w'.ownsRow base 287 4 x (ch.eraseIdx k).length (ch.eraseIdx k).flatten ∧ Below base w w' := by
  obtain ⟨i0, hi0, hz0, hz1, hz2⟩ := info_parts Tryz.infoReason
  have hl := flat_len 4 ch hs
  have hEL : (ch.eraseIdx k).length = ch.length - 1 := List.length_eraseIdx_of_lt hk
  rcases h.2 with ⟨rfl, hn⟩ | ⟨g, cap, cur, rfl, hg, hh, hc1, hc2, _, _⟩
  · omega
  obtain ⟨n, hn⟩ : ∃ n, ch.length = n + 1 := ⟨ch.length - 1, by omega⟩
  have hED := erased_cells 4 ch hs k hk [.int .i64 0, .int .i64 0, .slice none 0 0, .int .u64 0]
  obtain ⟨news, hnews⟩ : ∃ news, (ch.drop (k + 1)).flatten = news := ⟨_, rfl⟩
  have hnl : news.length = (n - k) * 4 := by
    rw [← hnews, flat_len 4 _ (fun c hc => hs c (List.mem_of_mem_drop hc)), List.length_drop, hn]; congr 1; omega
  have hn1 : ∀ u ∈ news, u.oneCell' = true := by
    intro u hu
    rw [← hnews] at hu
    obtain ⟨c, hc, hu⟩ := List.mem_flatten.1 hu
    exact h1 c (List.mem_of_mem_drop hc) u hu
  rw [hn] at h hEL hED
  rw [hnews, show n + 1 - 1 = n by omega] at hED
  rw [show n + 1 - 1 = n by omega] at hEL
  have HD : Hid (w.drew.ownsRow base 287 4 (.slice (some ⟨g, 0, none⟩) (n + 1) cap) (n + 1) ch.flatten) := h
  obtain ⟨hs1, hb1⟩ := own_setCells (base := base) news ch.flatten (k * 4) w.drew HD.out hg
  obtain ⟨W1, hW1⟩ : ∃ W1, W1 = w.drew.setCells g (k * 4) news := ⟨_, rfl⟩
  rw [← hW1] at hs1 hb1
  have HW : Hid (W1 = w.drew.setCells g (k * 4) news) := hW1
  have HS1 : Hid (W1.ownsRow base 287 4 (.slice (some ⟨g, 0, none⟩) (n + 1) cap) (n + 1) (setMany ch.flatten (k * 4) news)) := hs1
  obtain ⟨hs2, hb2⟩ := own_setCells (base := base) [.int .i64 0, .int .i64 0, .slice none 0 0, .int .u64 0] _ (n * 4) W1 hs1 hg
  have HFIN : Hid ((W1.setCells g (n * 4) [.int .i64 0, .int .i64 0, .slice none 0 0, .int .u64 0]).ownsRow base 287 4 (.slice (some ⟨g, 0, none⟩) n cap) (ch.eraseIdx k).length (ch.eraseIdx k).flatten) := by
    show World.ownsRow _ _ _ _ _ _ _
    rw [hEL, ← hED]
    exact own_shrink n (by omega) hs2
  have HBF : Hid (Below base w (W1.setCells g (n * 4) [.int .i64 0, .int .i64 0, .slice none 0 0, .int .u64 0])) := ((Below.refl base w).drew).trans (hb1.trans hb2)
  have hmk : k * 4 ≤ n * 4 := Nat.mul_le_mul_right _ (by omega)
  have hcl : ∀ ty, (Builtin.clear_ #[284] ty #[.slice (some ⟨g, n * 4, none⟩) 1 (cap - n)]).run Tryz.prog W1 = .ok (.tuple #[]) (W1.setCells g (n * 4) [.int .i64 0, .int .i64 0, .slice none 0 0, .int .u64 0]) :=
    fun ty => run_clear_one W1 _ _ ty _ [.int .i64 0, .int .i64 0, .slice none 0 0, .int .u64 0] under_reasons zero_reason (by kernel_rfl) (by intro u hu; simp at hu; rcases hu with rfl | rfl | rfl | rfl <;> rfl) g (n * 4) _ (fun j hj => by
      have hjj : n * 4 + j < (n + 1) * 4 := by simp at hj; omega
      rw [HS1.out.cellAt _ hjj]
      have : n * 4 + j < (setMany ch.flatten (k * 4) news).length := by rw [HS1.out.1]; exact hjj
      rw [List.getElem?_eq_getElem this]; rfl) (fun j hj => HS1.out.frozenAt _)
  have s1 : Hid (news.length = (n - k) * 4) := hnl
  have s2 : Hid (∀ u ∈ news, u.oneCell' = true) := hn1
  have s3 : Hid (∀ t, t < news.length → (w.drew.cell? ⟨g, 0 + k * 4 + t, none⟩).isSome = true ∧ w.drew.frozen? ⟨g, 0 + k * 4 + t, none⟩ = false) := by
    intro t ht
    rw [hnl] at ht
    have e0 : (n - k) * 4 + k * 4 = n * 4 := by rw [← Nat.add_mul]; congr 1; omega
    have htt : k * 4 + t < (n + 1) * 4 := by rw [Nat.add_mul]; omega
    rw [Nat.zero_add, HD.out.cellAt _ htt, HD.out.frozenAt]
    have : k * 4 + t < ch.flatten.length := by rw [HD.out.1]; exact htt
    rw [List.getElem?_eq_getElem this]
    exact ⟨rfl, rfl⟩
  obtain ⟨A, hA, hsrc⟩ : ∃ A : Addr, (if cap = k + 1 then some (⟨g, 0, none⟩ : Addr) else some ⟨g, (k + 1) * 4, none⟩) = some A ∧ Hid (∀ t u, news[t]? = some u → w.drew.cell? (A.add t) = some u) := by
    by_cases hck : cap = k + 1
    · refine ⟨⟨g, 0, none⟩, by simp [hck], fun t u hu => ?_⟩
      have h0 : news.length = 0 := by rw [hnl, show n - k = 0 by omega, Nat.zero_mul]
      rw [List.length_eq_zero_iff.1 h0] at hu
      simp at hu
    · refine ⟨⟨g, (k + 1) * 4, none⟩, by simp [hck], fun t u hu => ?_⟩
      have ht := (List.getElem?_eq_some_iff.1 hu).1
      rw [hnl] at ht
      have e0 : (n - k) * 4 + k * 4 = n * 4 := by rw [← Nat.add_mul]; congr 1; omega
      have htt : (k + 1) * 4 + t < (n + 1) * 4 := by rw [Nat.add_mul, Nat.add_mul]; omega
      rw [add_at, HD.out.cellAt _ htt]
      rw [← hnews, ← flat_drop 4 _ ch hs, List.getElem?_drop] at hu
      exact hu
  have hkc : k + 1 ≤ cap := by omega
  unfold maxLen at hc2
  rw [hn]
  have hkn : k ≤ n := by omega
  have hcn : n + 1 ≤ cap := by omega
  clear hc1 hW1 hs1 hb1 hs2 hb2 hED hnews hnl hn1 h1 hs hl h hEL hh hz0 hz2 hn hk hmk
  go_enter Tryz.func282, Tryz.ntmps282
  have hkk : k + (n - k) = n := by omega
  have hlen : n + 1 - (k + 1) = n - k := by omega
  have hroom : k + (n - k) ≤ cap := by omega
  have hic : k ≤ cap := by omega
  have hk0 : (0 : Int) ≤ (k : Int) + 1 := by omega
  go_wp2_with fail
  go_region_law (refine step_append_room rfl (.tmp 22) (.tmp 25) 284 rfl 287 i0 4 under_reasons hi0 hz1 g 0 k cap (by simp [Act.eval, Act.put]) A (n - k) (cap - (k + 1)) news (by simp [Act.eval, Act.put]) s1.out hsrc.out s2.out hroom s3.out ?_; rw [Nat.zero_add, ← HW.out, hkk])
  have hne : ¬ cap = n := by omega
  have hn0 : (0 : Int) ≤ (n : Int) + 1 := by omega
  have hnc : n ≤ cap := by omega
  go_wp2
  go_ret
  exact ⟨_, rfl, HFIN.out, HBF.out⟩
theorem append_no_reason (w : World) (ty : TypeId) (base n c : Nat) (v : Value) (xs : List Value) (hown : w.ownsRow base 287 4 v n xs) :
    (Builtin.append_ #[284, 284] ty #[v, .slice none 0 c]).run Tryz.prog w = .ok v w := by
  obtain ⟨i0, hi, hz0, hz1, hz2⟩ := info_parts Tryz.infoReason
  rcases hown.2 with ⟨rfl, rfl⟩ | ⟨g, cap, cur, rfl, _, _, hnc, _⟩
  · simp [Builtin.append_, run_underlying under_reasons, sizeOf, typeInfo, hi, Builtin.lenOf, Builtin.firstCells]
  · simp [Builtin.append_, run_underlying under_reasons, sizeOf, typeInfo, hi, Builtin.lenOf, Builtin.firstCells, hnc, storeCells]
theorem earg_nil {w : World} {ch : List (List Value)} {s n c : Nat} (hs : ∀ x ∈ ch, x.length = s) (h0 : 0 < s) (h : EArg w (.slice none n c) ch) : ch = [] := by
  obtain ⟨a, c2, he, _, hr⟩ := h
  cases ch with
  | nil => rfl
  | cons z r =>
    have hz := hs z (List.mem_cons_self ..)
    cases z with
    | nil => simp at hz; omega
    | cons y t =>
      obtain ⟨b, off, hq, _⟩ := hr 0 y rfl
      rw [hq] at he
      cases he
set_option maxHeartbeats 800000 in
set_option maxRecDepth 100000 in
theorem clone_reasons (ch : List (List Value)) (hs : ∀ c ∈ ch, c.length = 4) (h1 : ∀ c ∈ ch, ∀ u ∈ c, u.oneCell' = true) (hl : ch.length ≤ 9000) (u : Value) (w : World) (hu : EArg w u ch) :
    Calls Tryz.prog 281 #[u] w fun e w' => ∃ x, e = .returned x ∧ w'.ownsRow w.heap.size 287 4 x ch.length ch.flatten ∧ Below w.heap.size w w' := by
  obtain ⟨i0, hi0, hz0, hz1, hz2⟩ := info_parts Tryz.infoReason
  have hfl := flat_len 4 ch hs
  have HU : Hid (∀ w', Below w.heap.size w w' → EArg w' u ch) := fun w' h => EArg.below h hu
  have q22 : ∀ (w : World) (a : Option Addr) (n c n' c' : Nat), (binOp .eql 284 (.slice a n c) (.slice none n' c')).run Tryz.prog w = .ok (.bool a.isNone) w := fun w a n c n' c' => Lib.run_eql_slice_nil w _ _ a n c n' c' under_reasons
  obtain ⟨a, c, he, hm, hr⟩ := id hu
  subst he
  cases a with
  | none =>
    have := earg_nil hs (by omega) hu
    subst this
    clear hu HU
    go_enter Tryz.func281, Tryz.ntmps281
    go_wp2
    go_ret
    exact ⟨_, rfl, World.ownsRow_nil _ _ _ _, Below.refl _ _⟩
  | some ad =>
    have HL : Hid (ch.length ≤ 9000) := hl
    have HC : Hid (∀ (j : Nat) (u : Value), ch.flatten[j]? = some u → (w.alloc (.cells #[] 287)).cell? (ad.add j) = some u) := fun j y hy => by
      obtain ⟨b, off, hq, hlt, hc⟩ := hr j y hy
      cases hq
      rw [add_at]
      exact ((below_alloc w _).cell (p := ⟨b, off + j, none⟩) hlt).trans hc
    have H1 : Hid (∀ u ∈ ch.flatten, u.oneCell' = true) := fun u hu => by
      obtain ⟨c, hc, hu⟩ := List.mem_flatten.1 hu
      exact h1 c hc u hu
    have HFL : Hid (ch.flatten.length = ch.length * 4) := hfl
    have HM0 : Hid ((w.alloc (.cells #[] 287)).ownsRow w.heap.size 287 4 (.slice (some ⟨w.heap.size, 0, none⟩) 0 0) 0 []) := World.ownsRow_made w #[] 0 (Nat.le_refl _) (Nat.zero_le _) (by simp)
    clear hu hl hs h1 hr hm hfl
    go_enter Tryz.func281, Tryz.ntmps281
    go_wp2_with (at_builtin; refine wpList_append_own _ rfl _ _ 284 rfl w.heap.size 287 i0 (.agg #[.int .i64 0, .int .i64 0, .slice none 0 0, .int .u64 0]) 4 48 under_reasons hi0 hz0 hz1 hz2 rfl (by decide) _ _ _ rfl HM0.out ad ch.length c ch.flatten rfl HFL.out HC.out H1.out ?c1 ?c2 ?c3 ?_)
    case c1 => have := HL.out; unfold maxLen; omega
    case c2 => have := HL.out; omega
    case c3 => simp
    intro v3 w3 hown3 hgrow _
    have HB3 : Hid (Below w.heap.size w w3) := (below_alloc _ _).grown hgrow (by simp) (by intro k hk; simp [Value.ownBlock] at hk; omega)
    have HO3 : Hid (w3.ownsRow w.heap.size 287 4 v3 ch.length ch.flatten) := by show World.ownsRow _ _ _ _ _ _ _; simpa using hown3
    obtain ⟨av, cv, rfl⟩ := own_form hown3
    clear hown3 hgrow
    go_wp2
    go_ret
    exact ⟨_, by simp, HO3.out, HB3.out⟩
end Go.Proofs.YtdjbejlbmaiocagGreatDoor
/-
  WALKS: package follow: the least of a list that is enough, of literals and of reasons.
-/
namespace Go.Proofs.YtdjbejlbmaiocagGreatDoor
open Go.RowKit

theorem erase_map {α β : Type} (f : α → β) (l : List α) (k : Nat) : (l.map f).eraseIdx k = (l.eraseIdx k).map f := by
  rw [List.eraseIdx_eq_take_drop_succ, List.eraseIdx_eq_take_drop_succ, List.map_append, List.map_take, List.map_drop]
theorem lits_flat (l : Cla) : (l.map litCs).flatten = litsCs l := by unfold litsCs; rw [List.flatMap]
theorem lits_wide (l : Cla) : ∀ c ∈ l.map litCs, c.length = 3 := by
  intro c hc
  obtain ⟨t, _, rfl⟩ := List.mem_map.1 hc
  rfl
theorem lits_single (l : Cla) : ∀ c ∈ l.map litCs, ∀ u ∈ c, u.oneCell' = true := by
  intro c hc u hu
  obtain ⟨t, _, rfl⟩ := List.mem_map.1 hc
  simp [litCs] at hu
  rcases hu with rfl | rfl | rfl <;> rfl
theorem lown_e {base : Nat} {w : World} {v : Value} {l : Cla} (h : LOwn base w v l) : w.ownsRow base 88 3 v (l.map litCs).length (l.map litCs).flatten := by
  rw [List.length_map, lits_flat]; exact h
theorem e_lown {base : Nat} {w : World} {v : Value} {l : Cla} (h : w.ownsRow base 88 3 v (l.map litCs).length (l.map litCs).flatten) : LOwn base w v l := by
  rw [List.length_map, lits_flat] at h; exact h
/-- A closure that says whether literals are enough; it leaves alone what is old. -/
def ClosL2 (F : Nat) (caps : Array Value) (enough : Cla → Bool) (n : Nat) (w : World) : Prop :=
  (∀ (args : Array Value) (w' : World), Sem.run Tryz.prog (callFunc F args) w' = .ok (.enter F args) w') ∧
  ∀ (c : Cla) (v : Value) (w' : World), c.length ≤ n → Below w.heap.size w w' → LArg w' v c → Calls Tryz.prog F (#[v] ++ caps) w' fun e w'' => e = .returned (.bool (enough c)) ∧ Below w'.heap.size w' w''

theorem del_lit (l : Cla) (k : Nat) (hk : k < l.length) (base : Nat) (v : Value) (w : World) (h : LOwn base w v l) :
    Calls Tryz.prog 280 #[v, .int .i64 k, .int .i64 ((k : Int) + 1)] w fun e w' => ∃ x, e = .returned x ∧ LOwn base w' x (l.eraseIdx k) ∧ Below base w w' := by
  refine (del_lits (l.map litCs) (lits_wide l) (lits_single l) k (by rw [List.length_map]; exact hk) base v w (lown_e h)).mono ?_
  rintro e w' ⟨x, rfl, hx, hb⟩
  rw [erase_map] at hx
  exact ⟨x, rfl, e_lown hx, hb⟩
theorem least_step {α : Type} (enough : List α → Bool) (k : Nat) (out : List α) : leastL enough (k + 1) out = leastL enough k (if enough (out.eraseIdx k) then out.eraseIdx k else out) := rfl

set_option maxHeartbeats 1600000 in
set_option maxRecDepth 100000 in
theorem least_lits (F : Nat) (caps : Array Value) (enough : Cla → Bool) (l : Cla) (hl : l.length ≤ 900) (v : Value) (w : World) (hv : LArg w v l) (hF : ClosL2 F caps enough l.length w) :
    Calls Tryz.prog 252 #[v, .func (.func F) #[] caps] w fun e w' => ∃ x, e = .returned x ∧ LOwn w.heap.size w' x (leastL enough l.length l) ∧ Below w.heap.size w w' := by
  have HV : Hid (LArg w v l) := hv
  have HL : Hid (l.length ≤ 900) := hl
  have HF : Hid (ClosL2 F caps enough l.length w) := hF
  obtain ⟨R, hR⟩ : ∃ R, leastL enough l.length l = R := ⟨_, rfl⟩
  have HR : Hid (R = leastL enough l.length l) := hR.symm
  rw [hR]
  obtain ⟨a, c, rfl, _, _⟩ := hv
  clear hF hR
  go_enter Tryz.func252, Tryz.ntmps252
  go_wp2_with fail
  refine (clone_lits l HL.out _ _ HV.out).mono ?_
  rintro e w1 ⟨x, rfl, hx, hb1⟩
  have HX : Hid (LOwn w.heap.size w1 x l) := hx
  have HB1 : Hid (Below w.heap.size w w1) := hb1
  obtain ⟨ax, cx, rfl⟩ := own_form (show w1.ownsRow _ _ _ _ _ _ from hx)
  clear hx hb1
  go_wp2_with fail
  go_loopw [5, 6] (fun o i wr => ∃ (out : Cla) (k : Nat), i = .int .i64 ((k : Int) - 1) ∧ k ≤ out.length ∧ Hid (out.length ≤ l.length) ∧ LOwn w.heap.size wr o out ∧ Hid (R = leastL enough k out) ∧ Below w.heap.size w wr) (fun _ i _ => (intOf i + 1).toNat)
  case atStart => exact ⟨l, l.length, rfl, Nat.le_refl _, Nat.le_refl _, HX.out, HR, HB1.out⟩
  case round =>
    obtain ⟨out, k, rfl, hk, hlo, ho, hrd, hbw⟩ := hrel
    have HO : Hid (LOwn w.heap.size wr u5 out) := ho
    have HBW : Hid (Below w.heap.size w wr) := hbw
    obtain ⟨ao, co, rfl⟩ := own_form (show wr.ownsRow _ _ _ _ _ _ from ho)
    clear ho hbw
    cases k with
    | zero =>
      have HE : Hid (R = out) := hrd.out
      clear hrd
      go_wp2
      go_ret
      exact ⟨_, rfl, by rw [HE.out]; exact HO.out, HBW.out⟩
    | succ k =>
      have hke : ((k + 1 : Nat) : Int) - 1 = (k : Int) := by omega
      rw [hke]
      have HST : Hid (R = leastL enough k (if enough (out.eraseIdx k) then out.eraseIdx k else out)) := hrd.out
      have HLO : Hid (out.length ≤ 900) := Nat.le_trans hlo.out HL.out
      have HEL : Hid ((out.eraseIdx k).length = out.length - 1) := List.length_eraseIdx_of_lt (by omega)
      have hk9 : k + 1 ≤ 900 := Nat.le_trans hk HLO.out
      clear hrd hke
      go_wp2_with fail
      refine (clone_lits out HLO.out _ _ HO.out.arg).mono ?_
      rintro e w2 ⟨y, rfl, hy, hb2⟩
      have HY : Hid (LOwn w.heap.size w2 y out) := own_lower HBW.out.size hy
      have HY2 : Hid (LOwn wr.heap.size w2 y out) := hy
      have HO2 : Hid (LOwn w.heap.size w2 (.slice ao (List.length out) co) out) := own_below HO.out hb2
      have HBR : Hid (Below wr.heap.size wr w2) := hb2
      have HB2 : Hid (Below w.heap.size w w2) := HBW.out.trans (hb2.mono HBW.out.size)
      obtain ⟨ay, cy, rfl⟩ := own_form (show w2.ownsRow _ _ _ _ _ _ from hy)
      clear hy hb2
      go_wp2_with fail
      refine (del_lit out k (by omega) wr.heap.size _ _ HY2.out).mono ?_
      rintro e w3 ⟨z, rfl, hz, hb3⟩
      have HZ : Hid (LOwn w.heap.size w3 z (out.eraseIdx k)) := own_lower HBW.out.size hz
      have HBR3 : Hid (Below wr.heap.size wr w3) := HBR.out.trans hb3
      have HO3 : Hid (LOwn w.heap.size w3 (.slice ao (List.length out) co) out) := own_below HO.out HBR3.out
      have HB3 : Hid (Below w.heap.size w w3) := HBW.out.trans (HBR3.out.mono HBW.out.size)
      obtain ⟨az, cz, rfl⟩ := own_form (show w3.ownsRow _ _ _ _ _ _ from hz)
      have HCL : Hid (Calls Tryz.prog F (#[.slice az (out.eraseIdx k).length cz] ++ caps) w3 fun e w'' => e = .returned (.bool (enough (out.eraseIdx k))) ∧ Below w3.heap.size w3 w'') := HF.out.2 _ _ _ (by have := hlo.out; have := HEL.out; omega) HB3.out HZ.out.arg
      obtain ⟨B, hB⟩ : ∃ B, enough (out.eraseIdx k) = B := ⟨_, rfl⟩
      rw [hB] at HCL HST
      obtain ⟨E, hE⟩ : ∃ E, out.eraseIdx k = E := ⟨_, rfl⟩
      rw [hE] at HCL HST HEL HZ ⊢
      have HLK : Hid (E.length ≤ l.length) := by have := hlo.out; have := HEL.out; show _ ≤ _; omega
      have hkE : k ≤ E.length := by have := HEL.out; omega
      clear hz hb3 hB hE
      go_wp2_with fail
      rw [HF.out.1, Oper.upon_enter]
      refine HCL.out.mono ?_
      rintro e w4 ⟨rfl, hb4⟩
      have HO4 : Hid (LOwn w.heap.size w4 (.slice ao (List.length out) co) out) := own_below HO3.out hb4
      have HZ4 : Hid (LOwn w.heap.size w4 (.slice az (List.length E) cz) E) := own_below HZ.out hb4
      have HB4 : Hid (Below w.heap.size w w4) := HB3.out.trans (hb4.mono HB3.out.size)
      clear hb4
      cases B
      · have HN : Hid (R = leastL enough k out) := HST.out
        clear HST
        go_wp2
        go_roundw
        case rel => exact ⟨out, k, rfl, by omega, hlo, HO4.out, HN, HB4.out⟩
        case measure => simp [intOf]
      · have HN : Hid (R = leastL enough k E) := HST.out
        clear HST
        go_wp2
        go_roundw
        case rel => exact ⟨E, k, rfl, hkE, HLK, HZ4.out, HN, HB4.out⟩
        case measure => simp [intOf]
end Go.Proofs.YtdjbejlbmaiocagGreatDoor
/-
  WALKS: package follow: the least of a list of reasons that is enough.
-/
namespace Go.Proofs.YtdjbejlbmaiocagGreatDoor
open Go.RowKit

/-- A reason, and where its clause lies. -/
abbrev RV := (MStep × Nat) × Value
def reasonCs (x : RV) : List Value := [.int .i64 x.1.1.kind, .int .i64 x.1.1.con, x.2, .int .u64 (x.1.2 : Int)]
def IsSl (x : RV) : Prop := ∃ a n c, x.2 = .slice a n c
theorem reasons_wide (l : List RV) : ∀ c ∈ l.map reasonCs, c.length = 4 := by
  intro c hc
  obtain ⟨t, _, rfl⟩ := List.mem_map.1 hc
  rfl
theorem reasons_single (l : List RV) (h : ∀ x ∈ l, IsSl x) : ∀ c ∈ l.map reasonCs, ∀ u ∈ c, u.oneCell' = true := by
  intro c hc u hu
  obtain ⟨t, ht, rfl⟩ := List.mem_map.1 hc
  obtain ⟨a, n, c, he⟩ := h t ht
  simp [reasonCs, he] at hu
  rcases hu with rfl | rfl | rfl | rfl <;> rfl
def ROwn (base : Nat) (w : World) (v : Value) (l : List RV) : Prop := w.ownsRow base 287 4 v l.length (l.map reasonCs).flatten
def RvArg (w : World) (v : Value) (l : List RV) : Prop := EArg w v (l.map reasonCs)
theorem RvArg.below {w w' : World} {v : Value} {l : List RV} (hb : Below w.heap.size w w') (h : RvArg w v l) : RvArg w' v l := EArg.below hb h
theorem rv_form {w : World} {v : Value} {l : List RV} (h : RvArg w v l) : ∃ a c, v = .slice a l.length c := by
  obtain ⟨a, c, rfl, _, _⟩ := h
  exact ⟨a, c, by rw [List.length_map]⟩
theorem ROwn.arg {base : Nat} {w : World} {v : Value} {l : List RV} (h : ROwn base w v l) : RvArg w v l := own_earg (reasons_wide l) (by rw [List.length_map]; exact h)
theorem rown_lower {base base' : Nat} {w : World} {v : Value} {l : List RV} (hb : base' ≤ base) (h : ROwn base w v l) : ROwn base' w v l := World.ownsRow.mono h hb
/-- A closure that says whether reasons are enough; it leaves alone what is old. -/
def ClosR2 (F : Nat) (caps : Array Value) (enough : List RV → Bool) (l : List RV) (w : World) : Prop :=
  (∀ (args : Array Value) (w' : World), Sem.run Tryz.prog (callFunc F args) w' = .ok (.enter F args) w') ∧
  ∀ (c : List RV) (v : Value) (w' : World), c.length ≤ l.length → (∀ x ∈ c, x ∈ l) → Below w.heap.size w w' → RvArg w' v c → Calls Tryz.prog F (#[v] ++ caps) w' fun e w'' => e = .returned (.bool (enough c)) ∧ Below w'.heap.size w' w''
theorem del_reason (l : List RV) (h1 : ∀ x ∈ l, IsSl x) (k : Nat) (hk : k < l.length) (base : Nat) (v : Value) (w : World) (h : ROwn base w v l) :
    Calls Tryz.prog 282 #[v, .int .i64 k, .int .i64 ((k : Int) + 1)] w fun e w' => ∃ x, e = .returned x ∧ ROwn base w' x (l.eraseIdx k) ∧ Below base w w' := by
  refine (del_reasons (l.map reasonCs) (reasons_wide l) (reasons_single l h1) k (by rw [List.length_map]; exact hk) base v w (by rw [List.length_map]; exact h)).mono ?_
  rintro e w' ⟨x, rfl, hx, hb⟩
  rw [erase_map, List.length_map] at hx
  exact ⟨x, rfl, hx, hb⟩
theorem clone_reason (l : List RV) (h1 : ∀ x ∈ l, IsSl x) (hl : l.length ≤ 9000) (v : Value) (w : World) (h : RvArg w v l) :
    Calls Tryz.prog 281 #[v] w fun e w' => ∃ x, e = .returned x ∧ ROwn w.heap.size w' x l ∧ Below w.heap.size w w' := by
  refine (clone_reasons (l.map reasonCs) (reasons_wide l) (reasons_single l h1) (by rw [List.length_map]; exact hl) v w h).mono ?_
  rintro e w' ⟨x, rfl, hx, hb⟩
  rw [List.length_map] at hx
  exact ⟨x, rfl, hx, hb⟩

set_option maxHeartbeats 1600000 in
set_option maxRecDepth 100000 in
theorem least_reasons (F : Nat) (caps : Array Value) (enough : List RV → Bool) (l : List RV) (hsl : ∀ x ∈ l, IsSl x) (hl : l.length ≤ 9000) (v : Value) (w : World) (hv : RvArg w v l) (hF : ClosR2 F caps enough l w) :
    Calls Tryz.prog 255 #[v, .func (.func F) #[] caps] w fun e w' => ∃ x, e = .returned x ∧ ROwn w.heap.size w' x (leastL enough l.length l) ∧ Below w.heap.size w w' := by
  have HV : Hid (RvArg w v l) := hv
  have HSL : Hid (∀ x ∈ l, IsSl x) := hsl
  have HL : Hid (l.length ≤ 9000) := hl
  have HF : Hid (ClosR2 F caps enough l w) := hF
  obtain ⟨R, hR⟩ : ∃ R, leastL enough l.length l = R := ⟨_, rfl⟩
  have HR : Hid (R = leastL enough l.length l) := hR.symm
  rw [hR]
  obtain ⟨a, c, rfl⟩ := rv_form hv
  clear hF hR hsl
  go_enter Tryz.func255, Tryz.ntmps255
  go_wp2_with fail
  refine (clone_reason l HSL.out HL.out _ _ HV.out).mono ?_
  rintro e w1 ⟨x, rfl, hx, hb1⟩
  have HX : Hid (ROwn w.heap.size w1 x l) := hx
  have HB1 : Hid (Below w.heap.size w w1) := hb1
  obtain ⟨ax, cx, rfl⟩ := own_form (show w1.ownsRow _ _ _ _ _ _ from hx)
  clear hx hb1
  go_wp2_with fail
  go_loopw [5, 6] (fun o i wr => ∃ (out : List RV) (k : Nat), i = .int .i64 ((k : Int) - 1) ∧ k ≤ out.length ∧ Hid (out.length ≤ l.length) ∧ Hid (∀ x ∈ out, x ∈ l) ∧ ROwn w.heap.size wr o out ∧ Hid (R = leastL enough k out) ∧ Below w.heap.size w wr) (fun _ i _ => (intOf i + 1).toNat)
  case atStart => exact ⟨l, l.length, rfl, Nat.le_refl _, Nat.le_refl _, fun _ h => h, HX.out, HR, HB1.out⟩
  case round =>
    obtain ⟨out, k, rfl, hk, hlo, hso, ho, hrd, hbw⟩ := hrel
    have HSO : Hid (∀ x ∈ out, IsSl x) := fun x hx => HSL.out x (hso.out x hx)
    have HO : Hid (ROwn w.heap.size wr u5 out) := ho
    have HBW : Hid (Below w.heap.size w wr) := hbw
    obtain ⟨ao, co, rfl⟩ := own_form (show wr.ownsRow _ _ _ _ _ _ from ho)
    clear ho hbw
    cases k with
    | zero =>
      have HE : Hid (R = out) := hrd.out
      clear hrd
      go_wp2
      go_ret
      exact ⟨_, rfl, by rw [HE.out]; exact HO.out, HBW.out⟩
    | succ k =>
      have hke : ((k + 1 : Nat) : Int) - 1 = (k : Int) := by omega
      rw [hke]
      have HST : Hid (R = leastL enough k (if enough (out.eraseIdx k) then out.eraseIdx k else out)) := hrd.out
      have HLO : Hid (out.length ≤ 9000) := Nat.le_trans hlo.out HL.out
      have HEL : Hid ((out.eraseIdx k).length = out.length - 1) := List.length_eraseIdx_of_lt (by omega)
      have hk9 : k + 1 ≤ 9000 := Nat.le_trans hk HLO.out
      clear hrd hke
      go_wp2_with fail
      refine (clone_reason out HSO.out HLO.out _ _ HO.out.arg).mono ?_
      rintro e w2 ⟨y, rfl, hy, hb2⟩
      have HY : Hid (ROwn w.heap.size w2 y out) := rown_lower HBW.out.size hy
      have HY2 : Hid (ROwn wr.heap.size w2 y out) := hy
      have HO2 : Hid (ROwn w.heap.size w2 (.slice ao (List.length out) co) out) := own_below HO.out hb2
      have HBR : Hid (Below wr.heap.size wr w2) := hb2
      have HB2 : Hid (Below w.heap.size w w2) := HBW.out.trans (hb2.mono HBW.out.size)
      obtain ⟨ay, cy, rfl⟩ := own_form (show w2.ownsRow _ _ _ _ _ _ from hy)
      clear hy hb2
      go_wp2_with fail
      refine (del_reason out HSO.out k (by omega) wr.heap.size _ _ HY2.out).mono ?_
      rintro e w3 ⟨z, rfl, hz, hb3⟩
      have HZ : Hid (ROwn w.heap.size w3 z (out.eraseIdx k)) := rown_lower HBW.out.size hz
      have HBR3 : Hid (Below wr.heap.size wr w3) := HBR.out.trans hb3
      have HO3 : Hid (ROwn w.heap.size w3 (.slice ao (List.length out) co) out) := own_below HO.out HBR3.out
      have HB3 : Hid (Below w.heap.size w w3) := HBW.out.trans (HBR3.out.mono HBW.out.size)
      obtain ⟨az, cz, rfl⟩ := own_form (show w3.ownsRow _ _ _ _ _ _ from hz)
      have HCL : Hid (Calls Tryz.prog F (#[.slice az (out.eraseIdx k).length cz] ++ caps) w3 fun e w'' => e = .returned (.bool (enough (out.eraseIdx k))) ∧ Below w3.heap.size w3 w'') := HF.out.2 _ _ _ (by have := hlo.out; have := HEL.out; omega) (fun x hx => hso.out x (List.mem_of_mem_eraseIdx hx)) HB3.out HZ.out.arg
      obtain ⟨B, hB⟩ : ∃ B, enough (out.eraseIdx k) = B := ⟨_, rfl⟩
      rw [hB] at HCL HST
      have HSE : Hid (∀ x ∈ out.eraseIdx k, x ∈ l) := fun x hx => hso.out x (List.mem_of_mem_eraseIdx hx)
      obtain ⟨E, hE⟩ : ∃ E, out.eraseIdx k = E := ⟨_, rfl⟩
      rw [hE] at HCL HST HEL HZ HSE ⊢
      have HLK : Hid (E.length ≤ l.length) := by have := hlo.out; have := HEL.out; show _ ≤ _; omega
      have hkE : k ≤ E.length := by have := HEL.out; omega
      clear hz hb3 hB hE
      go_wp2_with fail
      rw [HF.out.1, Oper.upon_enter]
      refine HCL.out.mono ?_
      rintro e w4 ⟨rfl, hb4⟩
      have HO4 : Hid (ROwn w.heap.size w4 (.slice ao (List.length out) co) out) := own_below HO3.out hb4
      have HZ4 : Hid (ROwn w.heap.size w4 (.slice az (List.length E) cz) E) := own_below HZ.out hb4
      have HB4 : Hid (Below w.heap.size w w4) := HB3.out.trans (hb4.mono HB3.out.size)
      clear hb4
      cases B
      · have HN : Hid (R = leastL enough k out) := HST.out
        clear HST
        go_wp2
        go_roundw
        case rel => exact ⟨out, k, rfl, by omega, hlo, hso, HO4.out, HN, HB4.out⟩
        case measure => simp [intOf]
      · have HN : Hid (R = leastL enough k E) := HST.out
        clear HST
        go_wp2
        go_roundw
        case rel => exact ⟨E, k, rfl, hkE, HLK, HSE, HZ4.out, HN, HB4.out⟩
        case measure => simp [intOf]
end Go.Proofs.YtdjbejlbmaiocagGreatDoor
/-
  WALK: package fence: Why.
-/
namespace Go.Proofs.YtdjbejlbmaiocagGreatDoor
open Go.RowKit

set_option maxHeartbeats 3200000 in
set_option maxRecDepth 100000 in
theorem why_any (vs : List MVar) (hva : VarsAll vs) (pts : List Nat) (any : Cla) (hla : any.length ≤ 100) (g0 : Nat) (hgw : ∀ i, g0.testBit i = true → (wholeP vs).testBit i = true) (sv pv u : Value) (w : World) (hv : VArg w sv vs) (hp : PArg w pv pts) (hu : LArg w u any) (hT : TabT w) :
    Calls Tryz.prog 285 #[sv, pv, u, .int .u64 g0] w fun e w' => ∃ x, e = .returned x ∧ LOwn w.heap.size w' x (whyP vs pts any g0) ∧ Below w.heap.size w w' := by
  have HV : Hid (∀ w', Below w.heap.size w w' → VArg w' sv vs) := fun w' h => VArg.below h hv
  have HP : Hid (∀ w', Below w.heap.size w w' → PArg w' pv pts) := fun w' h => PArg.below h hp
  have HU : Hid (∀ w', Below w.heap.size w w' → LArg w' u any) := fun w' h => LArg.below h hu
  have HT : Hid (∀ w', Below w.heap.size w w' → TabT w') := fun w' h => hT.below h
  have HVO : Hid (VarsAll vs) := hva
  have HLA : Hid (any.length ≤ 100) := hla
  have HGW : Hid (∀ i, g0.testBit i = true → (wholeP vs).testBit i = true) := hgw
  have HG36 : Hid (g0 < 2 ^ 36) := Nat.lt_of_le_of_lt (Nat.le_of_testBit hgw) (whole_lt vs hva.1)
  obtain ⟨h, hh⟩ : ∃ h, heldP vs any = h := ⟨_, rfl⟩
  have HH : Hid (heldP vs any = h) := hh
  have HH36 : Hid (h < 2 ^ 36) := by rw [← hh]; exact of_lt vs hva.1 _
  obtain ⟨LP, hLP⟩ : ∃ LP, spareP (fun g => saysP vs pts (h ||| g)) (g0 + 1) g0 g0 = LP := ⟨_, rfl⟩
  have HWY : Hid (whyP vs pts any g0 = any ++ litsP vs LP) := by show _ = _; unfold whyP; rw [hh, hLP]
  have HLE : Hid (LP = spareP (fun g => saysP vs pts (h ||| g)) (g0 + 1) g0 g0) := hLP.symm
  obtain ⟨a1, c1, rfl, _, _⟩ := hv
  obtain ⟨a2, c2, rfl, _, _⟩ := hp
  obtain ⟨a3, c3, rfl, _, _⟩ := hu
  clear hva hla hgw hh hLP hT
  go_enter Tryz.func285, Tryz.ntmps285
  go_wp2_with fail
  refine (held_any vs HVO.out any _ _ _ (HV.out _ (Below.refl _ _)) (HU.out _ (Below.refl _ _))).mono ?_
  rintro e w1 ⟨rfl, hb1⟩
  rw [HH.out]
  have HB1 : Hid (Below w.heap.size w w1) := hb1
  clear hb1
  go_wp2_with fail
  go_loopw [3, 10] (fun g r wr => ∃ gg rr : Nat, g = .int .u64 (gg : Int) ∧ r = .int .u64 (rr : Int) ∧ Hid (gg < 2 ^ 36) ∧ Hid (rr < 2 ^ 36) ∧ Hid (LP = spareP (fun g => saysP vs pts (h ||| g)) (rr + 1) gg rr) ∧ Hid (∀ i, gg.testBit i = true → (wholeP vs).testBit i = true) ∧ Hid (Below w.heap.size w wr)) (fun _ r _ => (intOf r).toNat)
  case atStart => exact ⟨g0, g0, rfl, rfl, HG36, HG36, HLE, HGW, HB1⟩
  case round =>
    obtain ⟨gg, rr, rfl, rfl, hg36, hr36, hle, hgw, hbw⟩ := hrel
    by_cases hr0 : rr = 0
    · subst hr0
      have HEQ : Hid (LP = gg) := by show _ = _; rw [hle.out]; rfl
      clear hle
      go_wp2_with fail
      refine (clone_cla any (by have := HLA.out; omega) _ _ (HU.out _ hbw.out)).mono ?_
      rintro e w2 ⟨x, rfl, hx, hb2⟩
      have HB2 : Hid (Below w.heap.size w w2) := hbw.out.trans (hb2.mono hbw.out.size)
      have HX : Hid (LOwn w.heap.size w2 x any) := own_lower hbw.out.size hx
      have HSZ : Hid (w.heap.size ≤ w2.heap.size) := HB2.out.size
      obtain ⟨ax, cx, rfl⟩ := own_form (show w2.ownsRow _ _ _ _ _ _ from hx)
      clear hx hb2
      go_wp2_with fail
      refine (flits_any vs HVO.out gg hgw.out _ _ (HV.out _ HB2.out) (HT.out _ HB2.out)).mono ?_
      rintro e w3 ⟨y, rfl, hy, hb3⟩
      have HX3 : Hid (LOwn w.heap.size w3 (.slice ax (List.length any) cx) any) := own_below HX.out hb3
      have HB3 : Hid (Below w.heap.size w w3) := HB2.out.trans (hb3.mono HB2.out.size)
      have HLL : Hid ((litsP vs gg).length ≤ 36) := lits_len _ _
      obtain ⟨L, hL⟩ : ∃ L, litsP vs gg = L := ⟨_, rfl⟩
      have HRE : Hid (whyP vs pts any g0 = any ++ L) := by show _ = _; rw [HWY.out, HEQ.out, hL]
      rw [hL] at hy HLL
      have HY : Hid (LArg w3 y L) := hy.arg
      have HXL : Hid (∀ g, (Value.slice ax (List.length any) cx).ownBlock = some g → w.heap.size ≤ g) := fun g hg => ((show w3.ownsRow _ _ _ _ _ _ from HX3.out).lt g hg).1
      obtain ⟨ay, cy, rfl⟩ := own_form (show w3.ownsRow _ _ _ _ _ _ from hy)
      clear hy hb3 hL
      go_wp2_with (at_builtin; refine wpList_append_lits 38 under_clone_cla rfl _ _ rfl w.heap.size _ any rfl HX3.out _ L rfl HY.out ?c1 ?c2 ?_)
      case c1 => have := HLL.out; have := HLA.out; omega
      case c2 => exact HB3.out.size
      intro v4 w4 hown4 hgrow
      have HO4 : Hid (LOwn w.heap.size w4 v4 (any ++ L)) := hown4
      have HB4 : Hid (Below w.heap.size w w4) := HB3.out.grown hgrow HB3.out.size (fun g hg => HXL.out g hg)
      obtain ⟨av, cv, rfl⟩ := own_form (show w4.ownsRow _ _ _ _ _ _ from hown4)
      clear hown4 hgrow
      go_wp2
      go_ret
      exact ⟨_, rfl, by rw [HRE.out]; exact HO4.out, HB4.out⟩
    · have HST : Hid (LP = spareP (fun g => saysP vs pts (h ||| g)) ((rr &&& (rr - 1)) + 1) (if saysP vs pts (h ||| lessN gg (2 ^ Lib.ctz 64 rr)) then lessN gg (2 ^ Lib.ctz 64 rr) else gg) (rr &&& (rr - 1))) := by
        show _ = _
        rw [hle.out]; exact spare_step _ gg rr hr0 (by have := hr36.out; omega)
      obtain ⟨hlow, hk⟩ := Lib.lowest_bit 64 rr hr0 (by have := hr36.out; omega)
      have hless := low_less rr hr0 (by have := hr36.out; omega)
      obtain ⟨hk36⟩ : Nonempty (Lib.ctz 64 rr < 36) := ⟨(bitsL_step rr hr0 hr36.out).2⟩
      have hpow : 2 ^ Lib.ctz 64 rr < 2 ^ 36 := Nat.pow_lt_pow_right (by omega) hk36
      obtain ⟨tt, htt⟩ : ∃ tt, 2 ^ Lib.ctz 64 rr = tt := ⟨_, rfl⟩
      rw [htt] at hlow hpow HST
      have hneg : IntKind.u64.wrap (-(rr : Int)) = ((18446744073709551616 - rr : Nat) : Int) := by rw [IntKind.wrap_u64]; have := hr36.out; omega
      have hand := bits_and_u64_nat rr (18446744073709551616 - rr) (by have := hr36.out; omega) (by omega)
      have hlow' : rr &&& (18446744073709551616 - rr) = tt := hlow
      rw [hlow'] at hand
      obtain ⟨N0, hN0⟩ : ∃ N0, 18446744073709551616 - rr = N0 := ⟨_, rfl⟩
      rw [hN0] at hneg hand
      have hnot := bits_andNot_u64 gg tt (by have := hg36.out; omega) (by omega)
      obtain ⟨sp, hsp⟩ : ∃ sp, lessN gg tt = sp := ⟨_, rfl⟩
      have HSP36 : Hid (sp < 2 ^ 36) := by rw [← hsp]; exact less_lt 36 _ _ hg36.out
      have HSW : Hid (∀ i, sp.testBit i = true → (wholeP vs).testBit i = true) := fun i hi => by
        rw [← hsp, testBit_less, Bool.and_eq_true] at hi
        exact hgw.out i hi.1
      rw [hsp] at hnot HST
      obtain ⟨r2, hr2⟩ : ∃ r2, rr &&& (rr - 1) = r2 := ⟨_, rfl⟩
      have hsub : IntKind.u64.wrap ((rr : Int) - 1) = ((rr - 1 : Nat) : Int) := by rw [IntKind.wrap_u64]; have := hr36.out; omega
      have hand2 := bits_and_u64_nat rr (rr - 1) (by have := hr36.out; omega) (by have := hr36.out; omega)
      obtain ⟨r1, hr1⟩ : ∃ r1, rr - 1 = r1 := ⟨_, rfl⟩
      rw [hr2] at hand2 hless HST
      rw [hr1] at hsub hand2
      have HR236 : Hid (r2 < 2 ^ 36) := by have := hr36.out; show _ < _; omega
      have HLS : Hid (r2 < rr) := hless
      have hne : ((rr : Int) != 0) = true := by simpa using hr0
      have hor := bits_or_u64_nat h sp (by have := HH36.out; omega) (by have := HSP36.out; omega)
      obtain ⟨hs, hhs⟩ : ∃ hs, h ||| sp = hs := ⟨_, rfl⟩
      have HHS36 : Hid (hs < 2 ^ 36) := by rw [← hhs]; exact or_lt36 HH36.out HSP36.out
      rw [hhs] at hor HST
      obtain ⟨B, hB⟩ : ∃ B, saysP vs pts hs = B := ⟨_, rfl⟩
      have HSY : Hid (Calls Tryz.prog 126 #[.slice a1 (List.length vs) c1, .slice a2 (List.length pts) c2, .int .u64 (hs : Int)] wr fun e w' => e = .returned (.bool B) ∧ Below wr.heap.size wr w') := by
        rw [← hB]
        exact says_any vs HVO.out pts hs HHS36.out _ _ wr (HV.out _ hbw.out) (HP.out _ hbw.out)
      rw [hB] at HST
      have HGWK : Hid (∀ i, gg.testBit i = true → (wholeP vs).testBit i = true) := hgw.out
      clear hle hr0 hlow hk hk36 hpow htt hlow' hN0 hsp hr2 hr1 hless hB hgw hhs
      cases B
      · have HS2 : Hid (LP = spareP (fun g => saysP vs pts (h ||| g)) (r2 + 1) gg r2) := by show _ = _; rw [HST.out]; rfl
        clear HST
        go_wp2_with fail
        refine HSY.out.mono ?_
        rintro e w7 ⟨rfl, hb7⟩
        have HB7 : Hid (Below w.heap.size w w7) := hbw.out.trans (hb7.mono hbw.out.size)
        clear hb7
        go_wp2
        go_roundw
        case rel => exact ⟨gg, r2, rfl, rfl, hg36, HR236, HS2, HGWK, HB7⟩
        case measure => simp [intOf]; exact HLS.out
      · have HS2 : Hid (LP = spareP (fun g => saysP vs pts (h ||| g)) (r2 + 1) sp r2) := by show _ = _; rw [HST.out]; rfl
        clear HST
        go_wp2_with fail
        refine HSY.out.mono ?_
        rintro e w7 ⟨rfl, hb7⟩
        have HB7 : Hid (Below w.heap.size w w7) := hbw.out.trans (hb7.mono hbw.out.size)
        clear hb7
        go_wp2
        go_roundw
        case rel => exact ⟨sp, r2, rfl, rfl, HSP36, HR236, HS2, HSW, HB7⟩
        case measure => simp [intOf]; exact HLS.out
end Go.Proofs.YtdjbejlbmaiocagGreatDoor
