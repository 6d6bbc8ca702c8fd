/-
  PART 17 of what the proof leans on (PrC, BakPlain, BakSize).
-/
import Derived.Test.YtdjbejlbmaiocagGreatDoorPartP
/-
  WALKS: package text: the printer: name, numbers, lit.
-/
namespace Go.Proofs.YtdjbejlbmaiocagGreatDoor
open Go.RowKit

def nameOf (vars : List MVar) (i : Int) : ByteArray := (vars.getD i.toNat ⟨ByteArray.empty, 0, 0⟩).name
set_option maxHeartbeats 400000 in
set_option maxRecDepth 100000 in
theorem pname_any (b : Nat) (vsl : Value) (vars : List MVar) (i : Int) (w : World) (hc : w.cell? ⟨b, 2, none⟩ = some vsl) (hv : VArg w vsl vars) (hi : 0 ≤ i ∧ i < vars.length) :
    Calls Tryz.prog 168 #[.pointer (some ⟨b, 0, none⟩), .int .i64 i] w fun e w' => e = .returned (.string (nameOf vars i)) ∧ w' = w := by
  obtain ⟨a, c, rfl, hm, hr⟩ := hv
  obtain ⟨k, rfl⟩ : ∃ k : Nat, i = (k : Int) := ⟨i.toNat, by omega⟩
  have hk : k < vars.length := by omega
  obtain ⟨_, bb, off, rfl, _, h0, _, _⟩ := hr k vars[k] (by simp [hk])
  have HN : Hid (nameOf vars (k : Int) = vars[k].name) := by show _ = _; unfold nameOf; simp [hk]
  rw [HN.out]
  unfold maxLen at hm
  obtain ⟨hm1, hm⟩ := hm
  clear hr
  go_enter Tryz.func168, Tryz.ntmps168
  go_wp2
  go_ret
  exact ⟨rfl, rfl⟩
theorem enters_pnumber (args : Array Value) (w' : World) : Sem.run Tryz.prog (callFunc 165 args) w' = .ok (.enter 165 args) w' := by
  simp [callFunc, go_sem, Tryz.func165, Tryz.f165]
theorem enters_pname (args : Array Value) (w' : World) : Sem.run Tryz.prog (callFunc 168 args) w' = .ok (.enter 168 args) w' := by
  simp [callFunc, go_sem, Tryz.func168, Tryz.f168]
theorem enters_pnumbers (args : Array Value) (w' : World) : Sem.run Tryz.prog (callFunc 231 args) w' = .ok (.enter 231 args) w' := by
  simp [callFunc, go_sem, Tryz.func231, Tryz.f231]
theorem enters_plit (args : Array Value) (w' : World) : Sem.run Tryz.prog (callFunc 234 args) w' = .ok (.enter 234 args) w' := by
  simp [callFunc, go_sem, Tryz.func234, Tryz.f234]
def numsB (l : List Int) : ByteArray := brackB (l.map numB)
set_option maxHeartbeats 400000 in
set_option maxRecDepth 100000 in
theorem pnumbers_any (N : Nat) (l : List Int) (v : Value) (w : World) (ht : TabN N w) (hv : IArg w v l) (hl : l.length ≤ 1000) (hlen : (joinB (l.map numB) [44, 32]).length ≤ 1000000) (hok : ∀ x ∈ l, okI x) :
    Calls Tryz.prog 231 #[v] w fun e w' => e = .returned (.string (numsB l)) ∧ Below w.heap.size w w' := by
  have HC := plist_int_n 165 numB l v w hv hl hlen enters_pnumber (fun x hx w' hb => pnumber_any N x (hok x hx) w' (ht.below hb))
  obtain ⟨av, cv, rfl, _, _⟩ := hv
  have HCC : Hid (Calls Tryz.prog 230 #[.slice av l.length cv, .func (.func 165) #[] #[]] w fun e w' => e = .returned (.string (brackB (l.map numB))) ∧ Below w.heap.size w w') := HC
  clear HC hl hlen hok
  go_enter Tryz.func231, Tryz.ntmps231
  go_wp2_with fail
  refine HCC.out.mono ?_
  rintro e w1 ⟨rfl, hb⟩
  go_wp2
  go_ret
  exact ⟨rfl, hb⟩
def opWB (op : Int) : ByteArray := opWL.getD op.toNat ByteArray.empty
def plitB (vars : List MVar) (t : MLit) : ByteArray := nameOf vars t.var ++ ⟨#[32]⟩ ++ opWB t.op ++ ⟨#[32]⟩ ++ numB t.n
theorem wpAnyH_narrow {P : Program} {md : Region.Mode} {ops : Array Oper} {Q : Exit → Act → World → Prop} {S S' : World → Prop} (hS : ∀ w, S' w → S w) : ∀ (fuel : Nat) (listed : Array Bool) (a : Act) (w : World), wpAnyH P md ops Q S' fuel listed a w → wpAnyH P md ops Q S fuel listed a w
  | 0, _, _, _, h => h
  | f + 1, _, _, _, h => ⟨h.1, fun i hi => wpOp_mono (fun _ _ hh => ⟨hS _ hh.1, wpAnyH_narrow hS f _ _ _ hh.2⟩) (h.2 i hi)⟩
set_option maxHeartbeats 4000000 in
set_option maxRecDepth 100000 in
theorem plit_any (N b : Nat) (vsl : Value) (vars : List MVar) (t : MLit) (w : World) (ht : TabN N w) (hc : w.cell? ⟨b, 2, none⟩ = some vsl) (hv : VArg w vsl vars) (hi : 0 ≤ t.var ∧ t.var < vars.length) (ho : 1 ≤ t.op ∧ t.op ≤ 4) (hn : okI t.n)
    (hs : (nameOf vars t.var).size ≤ 1000) (hs2 : (numB t.n).size ≤ 1000) :
    Calls Tryz.prog 234 #[.pointer (some ⟨b, 0, none⟩), litA t] w fun e w' => e = .returned (.string (plitB vars t)) ∧ Below w.heap.size w w' := by
  have HT : Hid (TabN N w) := ht
  have HVA : Hid (VArg w vsl vars) := hv
  have HCV : Hid (w.cell? ⟨b, 2, none⟩ = some vsl) := hc
  have hbw : b < w.heap.size := World.block_lt_of_cell? w ⟨b, 2, none⟩ hc
  have HIX : Hid (0 ≤ t.var ∧ t.var < vars.length) := hi
  have HOK : Hid (okI t.n) := hn
  obtain ⟨k, hk⟩ : ∃ k : Nat, t.op = (k : Int) := ⟨t.op.toNat, by omega⟩
  obtain ⟨nm, hnm⟩ : ∃ nm, nameOf vars t.var = nm := ⟨_, rfl⟩
  obtain ⟨nb, hnb⟩ : ∃ nb, numB t.n = nb := ⟨_, rfl⟩
  have hk1 : 1 ≤ k ∧ k ≤ 4 := by omega
  obtain ⟨z, hz⟩ : ∃ z, opWL[k]? = some z := by
    have : k < opWL.length := by show k < 5; omega
    exact ⟨opWL[k], by simp [this]⟩
  have hzs : z.size ≤ 2 := by
    have : k = 1 ∨ k = 2 ∨ k = 3 ∨ k = 4 := by omega
    rcases this with rfl | rfl | rfl | rfl <;> (cases hz; decide)
  have HZ : Hid (opWL[k]? = some z) := hz
  have HRS : Hid (plitB vars t = nm ++ ⟨#[32]⟩ ++ z ++ ⟨#[32]⟩ ++ nb) := by
    show _ = _; unfold plitB opWB; rw [hnm, hnb, hk]; simp [hz]
  have HNM : Hid (nameOf vars t.var = nm) := hnm
  have HNB : Hid (numB t.n = nb) := hnb
  rw [HRS.out]
  rw [hnm] at hs
  rw [hnb] at hs2
  unfold litA
  rw [hk]
  have HK : Hid (t.op = (k : Int)) := hk
  clear hz hnm hnb hk ht hv hc hi ho hn
  go_enter Tryz.func234, Tryz.ntmps234
  go_wp2_with fail
  obtain ⟨W, hW⟩ : ∃ W, W = w.alloc (.cells #[.int .i64 t.var, .int .i64 (k : Int), .int .i64 t.n] 88) := ⟨_, rfl⟩
  have HBW : Hid (Below w.heap.size w W) := by show Below _ _ _; rw [hW]; exact below_alloc _ _
  have HQ : W.heap[w.heap.size]? = some (.cells #[.int .i64 t.var, .int .i64 (k : Int), .int .i64 t.n] 88) := by rw [hW]; exact heap_alloc_new _ _
  have hlt : w.heap.size < W.heap.size := (Array.getElem?_eq_some_iff.1 HQ).1
  rw [← hW]
  clear hW
  have HS : Hid (∀ Y, Below W.heap.size W Y → Below W.heap.size W Y ∧ Y.cell? ⟨w.heap.size, 0, none⟩ = some (.int .i64 t.var) ∧ Y.cell? ⟨w.heap.size, 1, none⟩ = some (.int .i64 (k : Int)) ∧ Y.cell? ⟨w.heap.size, 2, none⟩ = some (.int .i64 t.n)) := fun Y hY =>
    ⟨hY, (hY.cell (p := ⟨w.heap.size, 0, none⟩) hlt).trans (blk9 HQ 0 _ rfl), (hY.cell (p := ⟨w.heap.size, 1, none⟩) hlt).trans (blk9 HQ 1 _ rfl), (hY.cell (p := ⟨w.heap.size, 2, none⟩) hlt).trans (blk9 HQ 2 _ rfl)⟩
  clear HQ
  have hHeld := HS.out W.drew (Below.refl _ _).drew
  refine wp_region_held_drew (S := fun Y => Below W.heap.size W Y ∧ Y.cell? ⟨w.heap.size, 0, none⟩ = some (.int .i64 t.var) ∧ Y.cell? ⟨w.heap.size, 1, none⟩ = some (.int .i64 (k : Int)) ∧ Y.cell? ⟨w.heap.size, 2, none⟩ = some (.int .i64 t.n)) (by kernel_rfl) hHeld (fun _ => ?_)
  refine wpAnyH_take (i := 0) (v := ?v0x1) rfl (by kernel_rfl) (by kernel_rfl) (by kernel_rfl) (fun _ _ _ h => h) (Or.inl ⟨by rfl, ?y0x1⟩) hHeld ?r0x1
  case y0x1 => intro wq hSw; obtain ⟨q0, q1, q2, q3⟩ := hSw; go_simp; with_reducible rfl
  refine wpAnyH_take (i := 1) (v := ?v1x2) rfl (by kernel_rfl) (by kernel_rfl) (by kernel_rfl) (fun _ _ _ h => h) (Or.inl ⟨by rfl, ?y1x2⟩) hHeld ?r1x2
  case y1x2 => intro wq hSw; obtain ⟨q0, q1, q2, q3⟩ := hSw; go_simp; with_reducible rfl
  refine wpAnyH_take (i := 2) (v := ?v2x3) rfl (by kernel_rfl) (by kernel_rfl) (by kernel_rfl) (fun _ _ _ h => h) (Or.inl ⟨by rfl, ?y2x3⟩) hHeld ?r2x3
  case y2x3 => intro wq hSw; obtain ⟨q0, q1, q2, q3⟩ := hSw; go_simp; with_reducible rfl
  refine wpAnyH_take (i := 6) (v := ?v6x4) rfl (by kernel_rfl) (by kernel_rfl) (by kernel_rfl) (fun _ _ _ h => h) (Or.inl ⟨by rfl, ?y6x4⟩) hHeld ?r6x4
  case y6x4 => intro wq hSw; obtain ⟨q0, q1, q2, q3⟩ := hSw; go_simp; with_reducible rfl
  refine wpAnyH_take (i := 7) (v := ?v7x5) rfl (by kernel_rfl) (by kernel_rfl) (by kernel_rfl) (fun _ _ _ h => h) (Or.inl ⟨by rfl, ?y7x5⟩) hHeld ?r7x5
  case y7x5 => intro wq hSw; obtain ⟨q0, q1, q2, q3⟩ := hSw; go_simp; with_reducible rfl
  refine wpAnyH_take (i := 12) (v := ?v12x6) rfl (by kernel_rfl) (by kernel_rfl) (by kernel_rfl) (fun _ _ _ h => h) (Or.inl ⟨by rfl, ?y12x6⟩) hHeld ?r12x6
  case y12x6 => intro wq hSw; obtain ⟨q0, q1, q2, q3⟩ := hSw; go_simp; with_reducible rfl
  refine wpAnyH_take (i := 13) (v := ?v13x7) rfl (by kernel_rfl) (by kernel_rfl) (by kernel_rfl) (fun _ _ _ h => h) (Or.inl ⟨by rfl, ?y13x7⟩) hHeld ?r13x7
  case y13x7 => intro wq hSw; obtain ⟨q0, q1, q2, q3⟩ := hSw; go_simp; with_reducible rfl
  have g1 : ¬ (9223372036854775807 < nm.size + 1) := by omega
  have g2 : ¬ (9223372036854775807 < nm.size + 1 + z.size) := by omega
  have g3 : ¬ (9223372036854775807 < nm.size + 1 + z.size + 1) := by omega
  have g4 : ¬ (9223372036854775807 < nm.size + 1 + z.size + 1 + nb.size) := by omega
  have hk5 : ((k : Int) < (opWL.length : Int)) := by show (k : Int) < 5; omega
  have hk0 : ((0 : Int) ≤ (k : Int)) := by omega
  refine wpAnyH_ready (rs := [3]) (by kernel_rfl) (by simp) ?_
  refine AllReadyH.cons rfl (fun K hK => ?_) AllReadyH.nil
  go_simp
  refine (pname_any b vsl vars t.var W.drew ((HBW.out.cell (p := ⟨b, 2, none⟩) hbw).trans HCV.out) (VArg.below (HBW.out.trans ((Below.refl _ _).drew)) HVA.out) HIX.out).mono ?_
  rw [HNM.out]
  rintro e w1 ⟨rfl, rfl⟩
  dsimp only
  refine hK.out _ _ hHeld (fun _ => ?_)
  clear hK
  refine wpAnyH_take (i := 4) (v := ?v4x101) rfl (by kernel_rfl) (by kernel_rfl) (by kernel_rfl) (fun _ _ _ h => h) (Or.inl ⟨by rfl, ?y4x101⟩) hHeld ?r4x101
  case y4x101 => intro wq hSw; obtain ⟨q0, q1, q2, q3⟩ := hSw; go_simp; with_reducible rfl
  refine wpAnyH_ready (rs := [5]) (by kernel_rfl) (by simp) ?_
  refine AllReadyH.cons rfl (fun K hK => ?_) AllReadyH.nil
  go_simp
  refine (words_ops W.drew).mono ?_
  rintro e w2 ⟨sv, rfl, ⟨as_, cs_, rfl, hm_, hsv⟩, hb2⟩
  obtain ⟨bk, off, rfl, hbk, hcell⟩ := hsv k z HZ.out
  have hB2 : Below W.heap.size W w2 := (Below.refl _ _).drew.trans hb2
  dsimp only
  have hHeld2 := HS.out w2 hB2
  refine hK.out _ _ hHeld2 (fun _ => ?_)
  clear hK hsv
  refine wpAnyH_narrow (S' := fun Y => (Below W.heap.size W Y ∧ Y.cell? ⟨w.heap.size, 0, none⟩ = some (.int .i64 t.var) ∧ Y.cell? ⟨w.heap.size, 1, none⟩ = some (.int .i64 (k : Int)) ∧ Y.cell? ⟨w.heap.size, 2, none⟩ = some (.int .i64 t.n)) ∧ Y.cell? ⟨bk, off + k, none⟩ = some (.string z)) (fun _ h => h.1) _ _ _ _ ?_
  have hHeld3 := And.intro hHeld2 hcell
  refine wpAnyH_take (i := 8) (v := ?v8x102) rfl (by kernel_rfl) (by kernel_rfl) (by kernel_rfl) (fun _ _ _ h => h) (Or.inl ⟨by rfl, ?y8x102⟩) hHeld3 ?r8x102
  case y8x102 => intro wq hSw; obtain ⟨⟨q0, q1, q2, q3⟩, q4⟩ := hSw; go_simp; with_reducible rfl
  refine wpAnyH_take (i := 9) (v := ?v9x103) rfl (by kernel_rfl) (by kernel_rfl) (by kernel_rfl) (fun _ _ _ h => h) (Or.inl ⟨by rfl, ?y9x103⟩) hHeld3 ?r9x103
  case y9x103 => intro wq hSw; obtain ⟨⟨q0, q1, q2, q3⟩, q4⟩ := hSw; go_simp; with_reducible rfl
  refine wpAnyH_take (i := 10) (v := ?v10x104) rfl (by kernel_rfl) (by kernel_rfl) (by kernel_rfl) (fun _ _ _ h => h) (Or.inl ⟨by rfl, ?y10x104⟩) hHeld3 ?r10x104
  case y10x104 => intro wq hSw; obtain ⟨⟨q0, q1, q2, q3⟩, q4⟩ := hSw; go_simp; with_reducible rfl
  refine wpAnyH_take (i := 11) (v := ?v11x105) rfl (by kernel_rfl) (by kernel_rfl) (by kernel_rfl) (fun _ _ _ h => h) (Or.inl ⟨by rfl, ?y11x105⟩) hHeld3 ?r11x105
  case y11x105 => intro wq hSw; obtain ⟨⟨q0, q1, q2, q3⟩, q4⟩ := hSw; go_simp; with_reducible rfl
  refine wpAnyH_ready (rs := [14]) (by kernel_rfl) (by simp) ?_
  refine AllReadyH.cons rfl (fun K hK => ?_) AllReadyH.nil
  go_simp
  refine (pnumber_any N t.n HOK.out w2 ((HT.out.below HBW.out).below hB2)).mono ?_
  rw [HNB.out]
  rintro e w3 ⟨rfl, hb3⟩
  dsimp only
  have hHeld4 := And.intro (HS.out w3 (hB2.trans (hb3.mono hB2.size))) ((hb3.cell (p := ⟨bk, off + k, none⟩) hbk).trans hcell)
  refine hK.out _ _ hHeld4 (fun _ => ?_)
  clear hK
  refine wpAnyH_take (i := 15) (v := ?v15x106) rfl (by kernel_rfl) (by kernel_rfl) (by kernel_rfl) (fun _ _ _ h => h) (Or.inl ⟨by rfl, ?y15x106⟩) hHeld4 ?r15x106
  case y15x106 => intro wq hSw; obtain ⟨⟨q0, q1, q2, q3⟩, q4⟩ := hSw; go_simp; with_reducible rfl
  refine wpAnyH_ready (rs := [16]) (by kernel_rfl) (by simp) ?_
  refine AllReadyH.cons rfl (fun K hK => ?_) AllReadyH.nil
  go_simp
  refine hK.out _ _ hHeld4 (fun _ => ?_)
  clear hK
  refine wpAnyH_done (by kernel_rfl) ?_ _
  have HE : Hid (Below w.heap.size w w3) := HBW.out.trans ((hB2.trans (hb3.mono hB2.size)).mono HBW.out.size)
  clear hHeld hHeld2 hHeld3 hHeld4 hb2 hB2 hb3 hcell hm_
  go_wp2
  go_ret
  exact ⟨rfl, HE.out⟩
end Go.Proofs.YtdjbejlbmaiocagGreatDoor
/-
  PLAIN: what is printed of a right model is scanned and parsed as it was, if it is not too long.
-/
namespace Go.Proofs.YtdjbejlbmaiocagGreatDoor
open Go
/-- A token but for where it begins. -/
structure KT where
  kind : Int
  text : ByteArray
def ktOf (t : Tok) : KT := ⟨t.kind, t.text⟩
/-- What follows goes on no word and no number. -/
def NW (l : List UInt8) : Prop := l = [] ∨ ∃ c r, l = c :: r ∧ isW c = false
/-- Bytes that are these tokens, with blanks between. -/
inductive Spells : List UInt8 → List KT → Prop
  | nil : Spells [] []
  | blank {c : UInt8} {l : List UInt8} {ts : List KT} (hc : isB c = true) (h : Spells l ts) : Spells (c :: l) ts
  | tok {l : List UInt8} {ts : List KT} (t : KT) (ht : isTok t.kind t.text = true) (hn : t.kind = 3 ∨ NW l) (h : Spells l ts) : Spells (t.text.data.toList ++ l) (t :: ts)
theorem byteAt_drop_t (l : List UInt8) (k : Nat) : byteAt (l.drop k) 0 = byteAt l k := by unfold byteAt; simp
theorem runTo_drop_t (p : UInt8 → Bool) (l : List UInt8) (k : Nat) : runTo p l k = k + runTo p (l.drop k) 0 := by unfold runTo; simp
theorem kindOf_drop_t (l : List UInt8) (k : Nat) : kindOf l k = kindOf (l.drop k) 0 := by unfold kindOf; rw [byteAt_drop_t, List.drop_zero]
theorem endOf_drop_t (l : List UInt8) (k : Nat) : endOf l k = k + endOf (l.drop k) 0 := by
  unfold endOf
  rw [byteAt_drop_t, List.drop_zero]
  split
  · exact runTo_drop_t _ _ _
  · split
    · exact runTo_drop_t _ _ _
    · omega
theorem takeWhile_app_t (p : UInt8 → Bool) (a b : List UInt8) (ha : (a.takeWhile p).length = a.length) (hb : b = [] ∨ ∃ c r, b = c :: r ∧ p c = false) : (a ++ b).takeWhile p = a := by
  induction a with
  | nil =>
    rcases hb with rfl | ⟨c, r, rfl, hc⟩
    · rfl
    · simp [hc]
  | cons c q ih =>
    rw [List.takeWhile_cons] at ha
    split at ha
    · rename_i hc
      simp only [List.length_cons, Nat.add_right_cancel_iff] at ha
      rw [List.cons_append, List.takeWhile_cons, if_pos hc, ih ha]
    · simp at ha
theorem sign1_cases (c : UInt8) (h : sign1 c = true) : c = 91 ∨ c = 93 ∨ c = 59 ∨ c = 58 ∨ c = 44 ∨ c = 45 := by
  simp only [sign1, Bool.or_eq_true, beq_iff_eq] at h
  have e : ∀ n : Nat, n < 256 → (c.toNat : Int) = n → c = UInt8.ofNat n := by
    intro n hn h
    apply UInt8.toNat_inj.1
    rw [UInt8.toNat_ofNat']
    omega
  rcases h with h | h | h | h | h | h
  · exact Or.inl (e 91 (by decide) h)
  · exact Or.inr (Or.inl (e 93 (by decide) h))
  · exact Or.inr (Or.inr (Or.inl (e 59 (by decide) h)))
  · exact Or.inr (Or.inr (Or.inr (Or.inl (e 58 (by decide) h))))
  · exact Or.inr (Or.inr (Or.inr (Or.inr (Or.inl (e 44 (by decide) h)))))
  · exact Or.inr (Or.inr (Or.inr (Or.inr (Or.inr (e 45 (by decide) h)))))
theorem sign2_one (c : UInt8) (b : List UInt8) (h : sign1 c = true) : sign2 (c :: b) = false := by
  cases b with
  | nil => simp [sign2]
  | cons d r => rcases sign1_cases c h with rfl | rfl | rfl | rfl | rfl | rfl <;> simp [sign2]
theorem nw_d {b : List UInt8} (h : NW b) : b = [] ∨ ∃ c r, b = c :: r ∧ isD c = false := by
  rcases h with h | ⟨c, r, h, hc⟩
  · exact Or.inl h
  · refine Or.inr ⟨c, r, h, ?_⟩
    unfold isW at hc
    cases hd : isD c
    · rfl
    · rw [hd] at hc; simp at hc
theorem head_tok_t (a b : List UInt8) (h0 : 0 < a.length) (he : endOf a 0 = a.length) (hk : kindOf a 0 ≠ 0) (hb : kindOf a 0 = 3 ∨ NW b) : kindOf (a ++ b) 0 = kindOf a 0 ∧ endOf (a ++ b) 0 = a.length := by
  have hby : byteAt (a ++ b) 0 = byteAt a 0 := by
    cases a with
    | nil => simp at h0
    | cons c q => rfl
  unfold kindOf endOf at *
  rw [hby]
  rw [List.drop_zero] at *
  cases h1 : isL (byteAt a 0)
  · cases h2 : isD (byteAt a 0)
    · simp only [h1, h2, Bool.false_eq_true, if_false] at he hk ⊢
      rw [List.drop_zero]
      have hs : signN a = a.length := by omega
      have hs2 : signN (a ++ b) = signN a := by
        by_cases hl : a.length = 1
        · obtain ⟨c, rfl⟩ := List.length_eq_one_iff.1 hl
          have hc : sign1 c = true := by
            unfold signN at hs
            cases h3 : sign2 [c]
            · rw [h3] at hs
              simp only [Bool.false_eq_true, if_false] at hs
              split at hs
              · rename_i h4; exact h4
              · simp at hs
            · simp [sign2] at h3
          have e1 := sign2_one c b hc
          have e2 := sign2_one c [] hc
          unfold signN
          rw [show [c] ++ b = c :: b from rfl, e1, e2]
          rfl
        · have e1 : sign2 (a ++ b) = sign2 a := by unfold sign2; rw [List.take_append_of_le_length (by omega)]
          unfold signN; rw [e1, hby]
      rw [hs2, hs]
      exact ⟨rfl, by omega⟩
    · simp only [h1, h2, Bool.false_eq_true, if_false, if_true] at he hb ⊢
      refine ⟨trivial, ?_⟩
      unfold runTo at he ⊢
      rw [List.drop_zero] at he ⊢
      have hn : NW b := by rcases hb with h | h; exact absurd h (by decide); exact h
      rw [takeWhile_app_t isD a b (by omega) (nw_d hn)]; omega
  · simp only [h1, if_true] at he hb ⊢
    refine ⟨trivial, ?_⟩
    unfold runTo at he ⊢
    rw [List.drop_zero] at he ⊢
    have hn : NW b := by rcases hb with h | h; exact absurd h (by decide); exact h
    rw [takeWhile_app_t isW a b (by omega) hn]; omega
theorem extract_list_t (s : ByteArray) (j : Nat) (t : ByteArray) (b : List UInt8) (h : s.data.toList.drop j = t.data.toList ++ b) : s.extract j (j + t.size) = t := by
  apply ByteArray.ext
  apply Array.toList_inj.1
  rw [ByteArray.data_extract, Array.toList_extract, List.extract_eq_take_drop, h, Nat.add_sub_cancel_left]
  rw [← len_size t, List.take_left]
theorem scanF_skip (f : Nat) (s : ByteArray) (k k' : Nat) (acc : List Tok) (h : skipTo false s.data.toList k = skipTo false s.data.toList k') : scanF f s k acc = scanF f s k' acc := by
  cases f with
  | zero => rfl
  | succ f => rw [scanF, scanF, h]
/-- What is spelled is scanned. -/
theorem spells_scan (s : ByteArray) {l : List UInt8} {ts : List KT} (h : Spells l ts) : ∀ (f k : Nat) (acc : List Tok), s.data.toList.drop k = l → k ≤ s.size → s.size < k + f → ∃ us, us.map ktOf = ts ∧ scanF f s k acc = (acc ++ us, 0, 0) := by
  induction h with
  | nil =>
    intro f k acc hd hk hf
    have hk' : ¬ k < s.data.toList.length := by
      intro h'; have := congrArg List.length hd; rw [List.length_drop, List.length_nil] at this; omega
    refine ⟨[], rfl, ?_⟩
    rw [scanF_end _ s k acc (by rw [skipTo_end _ _ _ hk', ← len_size]; exact hk'), List.append_nil]
  | @blank c l ts hc h ih =>
    intro f k acc hd hk hf
    have hlen := congrArg List.length hd
    rw [List.length_drop, List.length_cons, len_size] at hlen
    have hk' : k < s.data.toList.length := by rw [len_size]; omega
    have hd2 : s.data.toList.drop (k + 1) = l := by rw [← List.drop_drop, hd]; rfl
    have hcc : s.data.toList[k] = c := by
      rw [List.drop_eq_getElem_cons hk'] at hd; exact (List.cons.inj hd).1
    obtain ⟨us, hu, hs⟩ := ih f (k + 1) acc hd2 (by omega) (by omega)
    exact ⟨us, hu, by rw [scanF_skip f s k (k + 1) acc (skipTo_blank _ k hk' (by rw [hcc]; exact hc))]; exact hs⟩
  | @tok l ts t ht hn h ih =>
    intro f k acc hd hk hf
    obtain ⟨h0, h4, hkz, hkind, hend, herr⟩ := (isTok_iff _ _).1 ht
    have hlen := congrArg List.length hd
    rw [List.length_drop, List.length_append, len_size, len_size] at hlen
    have hk' : k < s.data.toList.length := by rw [len_size]; omega
    have hkd : kindOf t.text.data.toList 0 ≠ 0 := by intro h'; rw [h'] at hkind; exact hkz hkind.symm
    obtain ⟨e1, e2⟩ := head_tok_t t.text.data.toList l (by rw [len_size]; exact h0) (by rw [len_size]; exact hend) hkd (by rcases hn with h' | h'; exact Or.inl (by rw [h'] at hkind; exact Int.ofNat.inj hkind); exact Or.inr h')
    have k1 : kindOf s.data.toList k = kindOf t.text.data.toList 0 := by rw [kindOf_drop_t, hd, e1]
    have k2 : endOf s.data.toList k = k + t.text.size := by rw [endOf_drop_t, hd, e2, len_size]
    have htok : tokAt s k = ⟨t.kind, k, t.text⟩ := by
      unfold tokAt; rw [if_neg (by rw [k1]; exact hkd), k1, k2, hkind, extract_list_t s k t.text _ hd]
    obtain ⟨hb1, hb2⟩ := kind_not_blank _ k hk' (by rw [k1]; exact hkd)
    cases f with
    | zero => omega
    | succ f =>
      have hd2 : s.data.toList.drop (k + t.text.size) = l := by rw [← List.drop_drop, hd, ← len_size t.text, List.drop_left]
      obtain ⟨us, hu, hs⟩ := ih f (k + t.text.size) (acc ++ [⟨t.kind, k, t.text⟩]) hd2 (by omega) (by omega)
      refine ⟨⟨t.kind, k, t.text⟩ :: us, by rw [List.map_cons, hu]; rfl, ?_⟩
      rw [scanF_next f s k k acc (skipTo_stop _ k hk' hb1 hb2) (by omega) (by rw [htok]; exact herr), k2, htok, hs]
      simp
/-- A piece of a text that ends in a sign; one that may end in a word. -/
def Pc0 (b : List UInt8) (ks : List KT) : Prop := ∀ l ts, Spells l ts → Spells (b ++ l) (ks ++ ts)
def Pc1 (b : List UInt8) (ks : List KT) : Prop := ∀ l ts, Spells l ts → NW l → Spells (b ++ l) (ks ++ ts)
theorem Pc0.one {b : List UInt8} {ks : List KT} (h : Pc0 b ks) : Pc1 b ks := fun l ts hl _ => h l ts hl
theorem pc_tok (t : KT) (ht : isTok t.kind t.text = true) : Pc1 t.text.data.toList [t] := fun _ _ hl hn => Spells.tok t ht (Or.inr hn) hl
theorem pc_sign (t : KT) (ht : isTok t.kind t.text = true) (h3 : t.kind = 3) : Pc0 t.text.data.toList [t] := fun _ _ hl => Spells.tok t ht (Or.inl h3) hl
theorem pc_nil : Pc0 [] [] := fun _ _ hl => hl
theorem Pc0.app {a b : List UInt8} {ka kb : List KT} (ha : Pc0 a ka) (hb : Pc0 b kb) : Pc0 (a ++ b) (ka ++ kb) := fun l ts hl => by
  rw [List.append_assoc, List.append_assoc]; exact ha _ _ (hb _ _ hl)
theorem Pc0.app1 {a b : List UInt8} {ka kb : List KT} (ha : Pc0 a ka) (hb : Pc1 b kb) : Pc1 (a ++ b) (ka ++ kb) := fun l ts hl hn => by
  rw [List.append_assoc, List.append_assoc]; exact ha _ _ (hb _ _ hl hn)
theorem Pc1.app {a b : List UInt8} {ka kb : List KT} (ha : Pc1 a ka) (hb : Pc0 b kb) (hn : ∀ l, NW (b ++ l)) : Pc0 (a ++ b) (ka ++ kb) := fun l ts hl => by
  rw [List.append_assoc, List.append_assoc]; exact ha _ _ (hb _ _ hl) (hn l)
theorem Pc1.app1 {a b : List UInt8} {ka kb : List KT} (ha : Pc1 a ka) (hb : Pc1 b kb) (hn : ∀ l, NW (b ++ l)) : Pc1 (a ++ b) (ka ++ kb) := fun l ts hl hl2 => by
  rw [List.append_assoc, List.append_assoc]; exact ha _ _ (hb _ _ hl hl2) (hn l)
theorem nw_cons {c : UInt8} {r : List UInt8} (h : isW c = false) : NW (c :: r) := Or.inr ⟨c, r, rfl, h⟩
theorem pc_blank {b : List UInt8} {ks : List KT} (h : Pc1 b ks) {c : UInt8} (hc : isB c = true) : Pc1 (c :: b) ks := fun l ts hl hn => Spells.blank hc (h l ts hl hn)
def sgnK (t : ByteArray) : KT := ⟨3, t⟩
def commaT : KT := ⟨3, ⟨#[44]⟩⟩
def openT : KT := ⟨3, ⟨#[91]⟩⟩
def closeT : KT := ⟨3, ⟨#[93]⟩⟩
/-- Parts with a blank ahead of each. -/
theorem tail_blank {α : Type} (f : α → ByteArray) (g : α → List KT) : ∀ (l : List α), (∀ x ∈ l, Pc1 (f x).data.toList (g x)) → ∀ b ts, Spells b ts → NW b →
    Spells (Lib.joinTail [32] (l.map fun x => (f x).data.toList) ++ b) (l.flatMap g ++ ts) ∧ NW (Lib.joinTail [32] (l.map fun x => (f x).data.toList) ++ b)
  | [], _, b, ts, hb, hn => ⟨hb, hn⟩
  | x :: l, h, b, ts, hb, hn => by
    obtain ⟨h1, h2⟩ := tail_blank f g l (fun y hy => h y (List.mem_cons_of_mem _ hy)) b ts hb hn
    have e : Lib.joinTail [32] ((x :: l).map fun x => (f x).data.toList) ++ b = 32 :: ((f x).data.toList ++ (Lib.joinTail [32] (l.map fun x => (f x).data.toList) ++ b)) := by simp [Lib.joinTail]
    rw [e]
    refine ⟨Spells.blank (by decide) ?_, nw_cons (by decide)⟩
    rw [List.flatMap_cons, List.append_assoc]
    exact h x (List.mem_cons_self ..) _ _ h1 h2
theorem tail_comma {α : Type} (f : α → ByteArray) (g : α → List KT) : ∀ (l : List α), (∀ x ∈ l, Pc1 (f x).data.toList (g x)) → ∀ b ts, Spells b ts → NW b →
    Spells (Lib.joinTail [44, 32] (l.map fun x => (f x).data.toList) ++ b) ((l.flatMap fun x => commaT :: g x) ++ ts) ∧ NW (Lib.joinTail [44, 32] (l.map fun x => (f x).data.toList) ++ b)
  | [], _, b, ts, hb, hn => ⟨hb, hn⟩
  | x :: l, h, b, ts, hb, hn => by
    obtain ⟨h1, h2⟩ := tail_comma f g l (fun y hy => h y (List.mem_cons_of_mem _ hy)) b ts hb hn
    have e : Lib.joinTail [44, 32] ((x :: l).map fun x => (f x).data.toList) ++ b = commaT.text.data.toList ++ (32 :: ((f x).data.toList ++ (Lib.joinTail [44, 32] (l.map fun x => (f x).data.toList) ++ b))) := by simp [Lib.joinTail, commaT]
    rw [e]
    refine ⟨?_, nw_cons (by decide)⟩
    rw [List.flatMap_cons, List.cons_append, List.cons_append, List.append_assoc]
    refine Spells.tok commaT (by decide) (Or.inl rfl) (Spells.blank (by decide) ?_)
    exact h x (List.mem_cons_self ..) _ _ h1 h2
/-- A list in brackets. -/
def brackK {α : Type} (g : α → List KT) : List α → List KT
  | [] => [openT, closeT]
  | x :: r => openT :: (g x ++ ((r.flatMap fun y => commaT :: g y) ++ [closeT]))
theorem brack_bytes (ys : List ByteArray) : (brackB ys).data.toList = 91 :: (joinB ys [44, 32] ++ [93]) := by
  unfold brackB
  rw [ByteArray.data_append, ByteArray.data_append]
  simp
theorem pc_brack {α : Type} (f : α → ByteArray) (g : α → List KT) (l : List α) (h : ∀ x ∈ l, Pc1 (f x).data.toList (g x)) : Pc0 (brackB (l.map f)).data.toList (brackK g l) := by
  intro b ts hb
  rw [brack_bytes]
  have hc : Spells (93 :: b) (closeT :: ts) := Spells.tok closeT (by decide) (Or.inl rfl) hb
  cases l with
  | nil => exact Spells.tok openT (by decide) (Or.inl rfl) hc
  | cons x r =>
    have e : (91 :: (joinB ((x :: r).map f) [44, 32] ++ [93])) ++ b = openT.text.data.toList ++ ((f x).data.toList ++ (Lib.joinTail [44, 32] (r.map fun x => (f x).data.toList) ++ (93 :: b))) := by
      unfold joinB
      rw [List.map_cons, List.map_cons, Lib.join_cons, List.map_map]
      simp [openT, Function.comp_def]
    rw [e]
    obtain ⟨h1, h2⟩ := tail_comma f g r (fun y hy => h y (List.mem_cons_of_mem _ hy)) _ _ hc (nw_cons (by decide))
    have e2 : brackK g (x :: r) ++ ts = openT :: (g x ++ ((r.flatMap fun y => commaT :: g y) ++ (closeT :: ts))) := by simp [brackK]
    rw [e2]
    exact Spells.tok openT (by decide) (Or.inl rfl) (h x (List.mem_cons_self ..) _ _ h1 h2)
def semiT : KT := ⟨3, semiW⟩
/-- A line of parts. -/
theorem pc_line (ps : List (ByteArray × List KT)) (h : ∀ x ∈ ps, Pc1 x.1.data.toList x.2) (hne : ps ≠ []) : Pc0 (lineL (ps.map (·.1))) (ps.flatMap (·.2) ++ [semiT]) := by
  intro b ts hb
  have hc : Spells (59 :: 10 :: b) (semiT :: ts) := Spells.tok (l := 10 :: b) semiT (by decide) (Or.inl rfl) (Spells.blank (by decide) hb)
  cases ps with
  | nil => exact absurd rfl hne
  | cons x r =>
    have e : lineL ((x :: r).map (·.1)) ++ b = x.1.data.toList ++ (Lib.joinTail [32] (r.map fun x => x.1.data.toList) ++ (59 :: 10 :: b)) := by
      unfold lineL joinB
      rw [List.map_cons, List.map_cons, Lib.join_cons, List.map_map]
      simp [Function.comp_def]
    rw [e]
    obtain ⟨h1, h2⟩ := tail_blank (fun x : ByteArray × List KT => x.1) (fun x => x.2) r (fun y hy => h y (List.mem_cons_of_mem _ hy)) _ _ hc (nw_cons (by decide))
    have e2 : ((x :: r).flatMap (·.2) ++ [semiT]) ++ ts = x.2 ++ (r.flatMap (fun x => x.2) ++ (semiT :: ts)) := by simp
    rw [e2]
    exact h x (List.mem_cons_self ..) _ _ h1 h2
theorem ba_list (s : ByteArray) : s.toList = s.data.toList := ByteArray.toList_eq s
/-- The digits of a number of at most four. -/
theorem dec_all (u : Nat) : ∀ c ∈ Lib.decDigits u, 48 ≤ c.toNat ∧ c.toNat ≤ 57 := by
  induction u using Nat.strongRecOn with
  | _ u ih =>
    rw [Lib.decDigits]
    split
    · rename_i h
      intro c hc
      rw [List.mem_singleton.1 hc, UInt8.toNat_ofNat']
      omega
    · rename_i h
      intro c hc
      rcases List.mem_append.1 hc with hc | hc
      · exact ih (u / 10) (by omega) c hc
      · rw [List.mem_singleton.1 hc, UInt8.toNat_ofNat']
        omega
theorem dec_v (u : Nat) : digV (Lib.decDigits u) = (u : Int) := by
  induction u using Nat.strongRecOn with
  | _ u ih =>
    rw [Lib.decDigits]
    split
    · rename_i h
      simp only [digV, List.foldl_cons, List.foldl_nil, UInt8.toNat_ofNat']
      omega
    · rename_i h
      have := ih (u / 10) (by omega)
      unfold digV at this ⊢
      rw [List.foldl_append, this]
      simp only [List.foldl_cons, List.foldl_nil, UInt8.toNat_ofNat']
      omega
theorem dec_len (k : Nat) : ∀ u, u < 10 ^ (k + 1) → (Lib.decDigits u).length ≤ k + 1 := by
  induction k with
  | zero => intro u hu; rw [Lib.decDigits, dif_pos (by simpa using hu)]; simp
  | succ k ih =>
    intro u hu
    rw [Lib.decDigits]
    split
    · simp
    · rw [List.length_append, List.length_singleton]
      have := ih (u / 10) (by rw [Nat.pow_succ] at hu; omega)
      omega
theorem dec_first (u : Nat) (h : 0 < u) : ∃ c r, Lib.decDigits u = c :: r ∧ c.toNat ≠ 48 := by
  induction u using Nat.strongRecOn with
  | _ u ih =>
    rw [Lib.decDigits]
    split
    · rename_i h'
      refine ⟨_, _, rfl, ?_⟩
      rw [UInt8.toNat_ofNat']; omega
    · rename_i h'
      obtain ⟨c, r, e, hc⟩ := ih (u / 10) (by omega) (by omega)
      exact ⟨c, r ++ [UInt8.ofNat (48 + u % 10)], by rw [e]; rfl, hc⟩
theorem dec_ne (u : Nat) : Lib.decDigits u ≠ [] := by
  rw [Lib.decDigits]
  split <;> simp
theorem runTo_all (p : UInt8 → Bool) (l : List UInt8) (h : ∀ c ∈ l, p c = true) : runTo p l 0 = l.length := by
  unfold runTo
  rw [List.drop_zero]
  have : l.takeWhile p = l := by
    induction l with
    | nil => rfl
    | cons c r ih => rw [List.takeWhile_cons, if_pos (h c (List.mem_cons_self ..)), ih fun d hd => h d (List.mem_cons_of_mem _ hd)]
  rw [this]; omega
def decB (u : Nat) : ByteArray := ⟨(Lib.decDigits u).toArray⟩
theorem dec_tok (u : Nat) (h : u ≤ 9999) : isTok 2 (decB u) = true := by
  have hd : (decB u).data.toList = Lib.decDigits u := by simp [decB]
  have hsz : (decB u).size = (Lib.decDigits u).length := by rw [← len_size, hd]
  have hl := dec_len 3 u (by omega)
  have hall := dec_all u
  have hne := dec_ne u
  have hDall : ∀ c ∈ Lib.decDigits u, isD c = true := fun c hc => by
    have := hall c hc
    simp only [isD, Bool.and_eq_true, decide_eq_true_eq]; omega
  rw [isTok_iff, hd, hsz]
  cases e : Lib.decDigits u with
  | nil => exact absurd e hne
  | cons c r =>
    rw [e] at hl hall hDall
    have hc := hall c (List.mem_cons_self ..)
    have hL : isL c = false := by simp only [isL, Bool.and_eq_false_iff, decide_eq_false_iff_not]; omega
    have hD := hDall c (List.mem_cons_self ..)
    have hb : byteAt (c :: r) 0 = c := rfl
    refine ⟨by simp, by simp at hl ⊢; omega, by decide, ?_, ?_, ?_⟩
    · unfold kindOf; rw [hb, hL, hD]; rfl
    · unfold endOf; rw [hb, hL, hD]
      simp only [Bool.false_eq_true, if_false, if_true]
      exact runTo_all _ _ hDall
    · unfold errOf
      rw [if_neg (by decide), if_pos rfl, hsz, hd, e, if_neg (by omega), hb]
      by_cases h0 : u = 0
      · subst h0
        rw [Lib.decDigits, dif_pos (by decide)] at e
        have : r = [] := (List.cons.inj e).2.symm
        subst this
        rw [if_neg (by simp)]
      · obtain ⟨c2, r2, e2, hc2⟩ := dec_first u (by omega)
        rw [e] at e2
        have : c = c2 := (List.cons.inj e2).1
        subst this
        rw [if_neg (by omega)]
def minusT : KT := ⟨3, ⟨#[45]⟩⟩
def numK (n : Int) : List KT := if n < 0 then [minusT, ⟨2, decB n.natAbs⟩] else [⟨2, decB n.toNat⟩]
theorem pc_num (n : Int) (h : -9999 ≤ n ∧ n ≤ 9999) : Pc1 (numB n).data.toList (numK n) := by
  have e : (numB n).data.toList = Lib.itoa n := by simp [numB]
  rw [e]
  unfold Lib.itoa numK
  split
  · have h1 := pc_tok ⟨2, decB n.natAbs⟩ (dec_tok _ (by omega))
    have h0 : Pc0 [45] [minusT] := pc_sign minusT (by decide) rfl
    have := h0.app1 h1
    simpa [decB] using this
  · have h1 := pc_tok ⟨2, decB n.toNat⟩ (dec_tok _ (by omega))
    simpa [decB] using h1
/-- These tokens are read as this, whatever follows. -/
def Reads {α : Type} (item : List Tok → PR α) (ks : List KT) (x : α) : Prop := ∀ us r, us.map ktOf = ks → item (us ++ r) = .ok x r
theorem map_cons_kt {us : List Tok} {t : KT} {ks : List KT} (h : us.map ktOf = t :: ks) : ∃ u vs, us = u :: vs ∧ u.kind = t.kind ∧ u.text = t.text ∧ vs.map ktOf = ks := by
  cases us with
  | nil => cases h
  | cons u vs =>
    rw [List.map_cons] at h
    have h1 := (List.cons.inj h).1
    have h2 := (List.cons.inj h).2
    exact ⟨u, vs, rfl, by rw [← h1]; rfl, by rw [← h1]; rfl, h2⟩
theorem map_nil_kt {us : List Tok} (h : us.map ktOf = []) : us = [] := by cases us with | nil => rfl | cons u r => cases h
theorem map_app_kt {us : List Tok} {a b : List KT} (h : us.map ktOf = a ++ b) : ∃ x y, us = x ++ y ∧ x.map ktOf = a ∧ y.map ktOf = b := by
  refine ⟨us.take a.length, us.drop a.length, (List.take_append_drop _ _).symm, ?_, ?_⟩
  · rw [List.map_take, h, List.take_left]
  · rw [List.map_drop, h, List.drop_left]
theorem Reads.bind {α β : Type} {item : List Tok → PR α} {f : α → List Tok → PR β} {ka kb : List KT} {x : α} {y : β} (h : Reads item ka x) (h2 : Reads (f x) kb y) : Reads (fun l => (item l).bind f) (ka ++ kb) y := by
  intro us r hu
  obtain ⟨a, b, rfl, h3, h4⟩ := map_app_kt hu
  show (item ((a ++ b) ++ r)).bind f = _
  rw [List.append_assoc, h a (b ++ r) h3]
  exact h2 b r h4
theorem reads_done {α : Type} (x : α) : Reads (fun l => PR.ok x l) [] x := by
  intro us r hu; rw [map_nil_kt hu]; rfl
theorem reads_skip {α : Type} (en : Int) (s : ByteArray) {f : Tok → List Tok → PR α} {k : Int} {ks : List KT} {x : α} (h : ∀ t, Reads (f t) ks x) : Reads (fun l => (skipP en s l).bind f) (⟨k, s⟩ :: ks) x := by
  intro us r hu
  obtain ⟨u, vs, rfl, h1, h2, h3⟩ := map_cons_kt hu
  have e : skipP en s (u :: vs ++ r) = .ok u (vs ++ r) := by
    unfold skipP passP
    rw [if_pos (by simp [headT, h2])]
    rfl
  show (skipP en s (u :: vs ++ r)).bind f = _
  rw [e]
  exact h u vs r h3
theorem reads_num (en : Int) (n : Int) : Reads (numberP en) (numK n) n := by
  intro us r hu
  unfold numK at hu
  split at hu
  · rename_i hn
    obtain ⟨u, vs, rfl, h1, h2, h3⟩ := map_cons_kt hu
    obtain ⟨u2, vs2, rfl, h4, h5, h6⟩ := map_cons_kt h3
    rw [map_nil_kt h6]
    unfold numberP
    have e0 : ((headT en (u :: [u2] ++ r)).text.toList == [45]) = true := by
      show (u.text.toList == [45]) = true
      rw [ba_list, h2]; rfl
    rw [if_pos e0]
    have e : skipP en ⟨#[45]⟩ (u :: [u2] ++ r) = .ok u (u2 :: r) := by
      unfold skipP passP
      rw [if_pos (by simp [headT, h2, minusT])]
      rfl
    rw [e]
    show (passP en (((headT en (u2 :: r)).kind == 2) && (!((headT en (u2 :: r)).text.toList == [48]))) (u2 :: r)).bind _ = _
    have hd : u2.text.data.toList = Lib.decDigits n.natAbs := by rw [h5]; simp [decB]
    have e2 : (((headT en (u2 :: r)).kind == 2) && (!((headT en (u2 :: r)).text.toList == [48]))) = true := by
      show ((u2.kind == 2) && (!(u2.text.toList == [48]))) = true
      rw [h4, ba_list, hd]
      obtain ⟨c, q, e3, hc⟩ := dec_first n.natAbs (by omega)
      rw [e3]
      have : ((c :: q) == [48]) = false := by
        rw [beq_eq_false_iff_ne]
        intro h'; apply hc; rw [(List.cons.inj h').1]; rfl
      rw [this]; rfl
    rw [e2]
    show PR.ok (-1 * digV u2.text.data.toList) r = _
    rw [hd, dec_v]
    congr 1
    omega
  · rename_i hn
    obtain ⟨u2, vs2, rfl, h4, h5, h6⟩ := map_cons_kt hu
    rw [map_nil_kt h6]
    unfold numberP
    have hd : u2.text.data.toList = Lib.decDigits n.toNat := by rw [h5]; simp [decB]
    have e0 : ((headT en ([u2] ++ r)).text.toList == [45]) = false := by
      show (u2.text.toList == [45]) = false
      rw [ba_list, hd, beq_eq_false_iff_ne]
      intro h'
      have := dec_all n.toNat 45 (by rw [h']; simp)
      simp at this
    rw [if_neg (by rw [e0]; decide)]
    have e2 : ((headT en ([u2] ++ r)).kind == 2) = true := by show (u2.kind == 2) = true; rw [h4]; rfl
    rw [e2]
    show PR.ok (1 * digV u2.text.data.toList) r = _
    rw [hd, dec_v]
    congr 1
    omega
/-- Tokens that open with no bracket that closes. -/
def Opens (ks : List KT) : Prop := ∃ t r, ks = t :: r ∧ t.text.data.toList ≠ [93]
theorem more_reads {α : Type} (en : Int) (item : List Tok → PR α) (g : α → List KT) : ∀ (l : List α), (∀ x ∈ l, Reads item (g x) x) → ∀ (f : Nat) (acc : List α) (us r : List Tok), us.map ktOf = (l.flatMap fun y => commaT :: g y) ++ [closeT] → l.length < f →
    moreP en item f acc (us ++ r) = .ok (acc ++ l) r
  | [], _, 0, acc, us, r, hu, hf => by simp at hf
  | [], _, f + 1, acc, us, r, hu, hf => by
    obtain ⟨u, vs, rfl, h1, h2, h3⟩ := map_cons_kt (show us.map ktOf = closeT :: [] from hu)
    rw [map_nil_kt h3]
    unfold moreP
    have e0 : ((headT en ([u] ++ r)).text.toList == [44]) = false := by show (u.text.toList == [44]) = false; rw [ba_list, h2]; rfl
    rw [if_neg (by rw [e0]; decide)]
    have e : skipP en ⟨#[93]⟩ ([u] ++ r) = .ok u r := by
      unfold skipP passP
      rw [if_pos (by simp [headT, h2, closeT])]
      rfl
    rw [e, List.append_nil]
    rfl
  | x :: l, h, 0, acc, us, r, hu, hf => by simp at hf
  | x :: l, h, f + 1, acc, us, r, hu, hf => by
    rw [List.flatMap_cons, List.append_assoc] at hu
    obtain ⟨u, vs, rfl, h1, h2, h3⟩ := map_cons_kt (show us.map ktOf = commaT :: (g x ++ ((l.flatMap fun y => commaT :: g y) ++ [closeT])) from hu)
    obtain ⟨a, b, rfl, h4, h5⟩ := map_app_kt h3
    unfold moreP
    have e0 : ((headT en (u :: (a ++ b) ++ r)).text.toList == [44]) = true := by show (u.text.toList == [44]) = true; rw [ba_list, h2]; rfl
    rw [if_pos e0]
    have e : skipP en ⟨#[44]⟩ (u :: (a ++ b) ++ r) = .ok u (a ++ (b ++ r)) := by
      unfold skipP passP
      rw [if_pos (by simp [headT, h2, commaT])]
      simp [headT]
    rw [e]
    show (item (a ++ (b ++ r))).bind _ = _
    rw [h x (List.mem_cons_self ..) a (b ++ r) h4]
    show moreP en item f (acc ++ [x]) (b ++ r) = _
    rw [more_reads en item g l (fun y hy => h y (List.mem_cons_of_mem _ hy)) f (acc ++ [x]) b r h5 (by simp at hf; omega)]
    simp
theorem reads_brack {α : Type} (en : Int) (item : List Tok → PR α) (g : α → List KT) (l : List α) (h : ∀ x ∈ l, Reads item (g x) x) (ho : ∀ x ∈ l, Opens (g x)) : Reads (readP en item) (brackK g l) l := by
  intro us r hu
  cases l with
  | nil =>
    obtain ⟨u, vs, rfl, h1, h2, h3⟩ := map_cons_kt (show us.map ktOf = openT :: [closeT] from hu)
    obtain ⟨u2, vs2, rfl, h4, h5, h6⟩ := map_cons_kt h3
    rw [map_nil_kt h6]
    unfold readP
    have e : skipP en ⟨#[91]⟩ (u :: [u2] ++ r) = .ok u (u2 :: r) := by
      unfold skipP passP
      rw [if_pos (by simp [headT, h2, openT])]
      rfl
    rw [e]
    show (if (headT en (u2 :: r)).text.toList == [93] then (skipP en ⟨#[93]⟩ (u2 :: r)).bind fun _ l => .ok [] l else _) = _
    rw [if_pos (by show (u2.text.toList == [93]) = true; rw [ba_list, h5]; rfl)]
    have e2 : skipP en ⟨#[93]⟩ (u2 :: r) = .ok u2 r := by
      unfold skipP passP
      rw [if_pos (by simp [headT, h5, closeT])]
      rfl
    rw [e2]
    rfl
  | cons x q =>
    obtain ⟨u, vs, rfl, h1, h2, h3⟩ := map_cons_kt (show us.map ktOf = openT :: (g x ++ ((q.flatMap fun y => commaT :: g y) ++ [closeT])) from hu)
    obtain ⟨a, b, rfl, h4, h5⟩ := map_app_kt h3
    obtain ⟨t, ks, e3, ht⟩ := ho x (List.mem_cons_self ..)
    obtain ⟨u2, vs2, e4, h6, h7, h8⟩ := map_cons_kt (h4.trans e3)
    unfold readP
    have e : skipP en ⟨#[91]⟩ (u :: (a ++ b) ++ r) = .ok u (a ++ (b ++ r)) := by
      unfold skipP passP
      rw [if_pos (by simp [headT, h2, openT])]
      simp [headT]
    rw [e]
    show (if (headT en (a ++ (b ++ r))).text.toList == [93] then (skipP en ⟨#[93]⟩ (a ++ (b ++ r))).bind fun _ l => .ok [] l else (item (a ++ (b ++ r))).bind fun x l => moreP en item (l.length + 1) [x] l) = _
    rw [if_neg (by rw [e4]; show ¬ (u2.text.toList == [93]) = true; rw [ba_list, h7]; simpa using ht)]
    rw [h x (List.mem_cons_self ..) a (b ++ r) h4]
    show moreP en item ((b ++ r).length + 1) [x] (b ++ r) = _
    have hlen : q.length ≤ b.length := by
      have := congrArg List.length h5
      rw [List.length_map, List.length_append, List.length_flatMap] at this
      have h9 : q.length ≤ (q.map fun y => (commaT :: g y).length).sum := by
        clear hu h3 h5 this h ho
        induction q with
        | nil => simp
        | cons z q ih => simp only [List.map_cons, List.sum_cons, List.length_cons] at ih ⊢; omega
      omega
    rw [more_reads en item g q (fun y hy => h y (List.mem_cons_of_mem _ hy)) _ [x] b r h5 (by rw [List.length_append]; omega)]
    rfl
theorem nameAt_none (s : ByteArray) : ∀ l : List ByteArray, (∀ t ∈ l, t.data.toList ≠ s.data.toList) → (nameAt l s).2 = false
  | [], _ => rfl
  | n :: r, h => by
    have ih := nameAt_none s r fun t ht => h t (List.mem_cons_of_mem _ ht)
    unfold nameAt
    rw [if_neg (by rw [ih]; decide), if_neg (h n (List.mem_cons_self ..))]
theorem nameAt_is (s : ByteArray) : ∀ (l : List ByteArray) (i : Nat), l[i]? = some s → (∀ j t, j ≠ i → l[j]? = some t → t.data.toList ≠ s.data.toList) → nameAt l s = ((i : Int), true)
  | [], i, h, _ => by simp at h
  | n :: r, 0, h, hd => by
    have hn : n = s := by simpa using h
    subst hn
    have h2 := nameAt_none n r fun t ht => by
      obtain ⟨j, hj⟩ := List.mem_iff_getElem?.1 ht
      exact hd (j + 1) t (by omega) (by simpa using hj)
    unfold nameAt
    rw [if_neg (by rw [h2]; decide), if_pos rfl]; rfl
  | n :: r, i + 1, h, hd => by
    have ih := nameAt_is s r i (by simpa using h) fun j t hj ht => hd (j + 1) t (by omega) (by simpa using ht)
    unfold nameAt
    rw [ih]
    rw [if_pos rfl]
    simp
/-- The names are names, and no two are the same. -/
def NamesOk (vars : List MVar) : Prop := (∀ v ∈ vars, isNameB v.name = true) ∧ ∀ (i j : Nat) (u v : MVar), i < j → vars[i]? = some u → vars[j]? = some v → u.name.data.toList ≠ v.name.data.toList
theorem names_ok (m : Mod) (h : checkM m = 0) : NamesOk m.vars := by
  have h1 := (checkM_vars m h).2.2.2.1
  have hv : ∀ (i : Nat) (v : MVar), m.vars[i]? = some v → varE (m.vars.take i) v = 0 := fun i v hv => firstE_all _ h1 (varE (m.vars.take i) v) (by
    have hi : i < m.vars.length := (List.getElem?_eq_some_iff.1 hv).1
    refine List.mem_map.2 ⟨i, List.mem_range.2 hi, ?_⟩
    rw [List.getD_eq_getElem?_getD, hv]; rfl)
  refine ⟨fun v hm => ?_, fun i j u v hij hu hv2 => ?_⟩
  · obtain ⟨i, hi⟩ := List.mem_iff_getElem?.1 hm
    have := hv i v hi
    unfold varE at this
    split at this
    · assumption
    · cases this
  · have := hv j v hv2
    unfold varE at this
    split at this
    · split at this
      · cases this
      · rename_i h2
        intro he
        apply h2
        rw [List.any_eq_true]
        refine ⟨u, List.mem_of_getElem? (i := i) (by rw [List.getElem?_take, if_pos hij]; exact hu), ?_⟩
        rw [ba_list, ba_list, he]; simp
    · cases this
def nameK (vars : List MVar) (i : Int) : List KT := [⟨1, nameOf vars i⟩]
theorem nameOf_get {vars : List MVar} {i : Int} (hi : 0 ≤ i ∧ i < vars.length) : ∃ v, vars[i.toNat]? = some v ∧ nameOf vars i = v.name := by
  have hlt : i.toNat < vars.length := by omega
  refine ⟨vars[i.toNat], List.getElem?_eq_getElem hlt, ?_⟩
  unfold nameOf
  rw [List.getD_eq_getElem?_getD, List.getElem?_eq_getElem hlt]; rfl
theorem name_tok {vars : List MVar} (h : NamesOk vars) {i : Int} (hi : 0 ≤ i ∧ i < vars.length) : isTok 1 (nameOf vars i) = true := by
  obtain ⟨v, hv, e⟩ := nameOf_get hi
  have := h.1 v (List.mem_of_getElem? hv)
  unfold isNameB at this
  rw [Bool.and_eq_true] at this
  rw [e]; exact this.1
theorem pc_name {vars : List MVar} (h : NamesOk vars) {i : Int} (hi : 0 ≤ i ∧ i < vars.length) : Pc1 (nameOf vars i).data.toList (nameK vars i) := pc_tok ⟨1, nameOf vars i⟩ (name_tok h hi)
theorem reads_name (en : Int) {vars : List MVar} (h : NamesOk vars) {i : Int} (hi : 0 ≤ i ∧ i < vars.length) : Reads (nameP en (vars.map MVar.name)) (nameK vars i) i := by
  intro us r hu
  obtain ⟨u, vs, rfl, h1, h2, h3⟩ := map_cons_kt hu
  rw [map_nil_kt h3]
  obtain ⟨v, hv, e⟩ := nameOf_get hi
  have hat : nameAt (vars.map MVar.name) u.text = (i, true) := by
    rw [h2]
    show nameAt (vars.map MVar.name) (nameOf vars i) = _
    rw [e]
    have := nameAt_is v.name (vars.map MVar.name) i.toNat (by rw [List.getElem?_map, hv]; rfl) fun j t hj ht => by
      rw [List.getElem?_map] at ht
      cases hj2 : vars[j]? with
      | none => rw [hj2] at ht; cases ht
      | some x =>
        rw [hj2] at ht
        have : x.name = t := by simpa using ht
        subst this
        rcases Nat.lt_or_gt_of_ne hj with hlt | hlt
        · exact h.2 j i.toNat x v hlt hj2 hv
        · exact fun he => h.2 i.toNat j v x hlt hv hj2 he.symm
    rw [this]
    congr 1
    omega
  unfold nameP
  show (if (nameAt (vars.map MVar.name) u.text).2 then (passP en true (u :: r)).bind fun _ r => .ok (nameAt (vars.map MVar.name) u.text).1 r else _) = _
  rw [hat]
  rfl
theorem opens_name {vars : List MVar} (h : NamesOk vars) {i : Int} (hi : 0 ≤ i ∧ i < vars.length) : Opens (nameK vars i) := by
  refine ⟨_, _, rfl, fun he => ?_⟩
  have := ((isTok_iff _ _).1 (name_tok h hi)).2.2.2.1
  have he' : (nameOf vars i).data.toList = [93] := he
  rw [he'] at this
  exact absurd this (by decide)
theorem opens_num (n : Int) : Opens (numK n) := by
  unfold numK
  split
  · exact ⟨_, _, rfl, by decide⟩
  · refine ⟨_, _, rfl, fun he => ?_⟩
    have he' : Lib.decDigits n.toNat = [93] := by simpa [decB] using he
    have := dec_all n.toNat 93 (by rw [he']; simp)
    simp at this
theorem opens_brack {α : Type} (g : α → List KT) (l : List α) : Opens (brackK g l) := by
  cases l with
  | nil => exact ⟨_, _, rfl, by decide⟩
  | cons x r => exact ⟨_, _, rfl, by decide⟩
theorem oneOf_reads (en : Int) (texts : List ByteArray) (t : ByteArray) (k kind : Int) (hk : kind ≠ 0) (hi : idxA texts t 0 = k) (h0 : 0 ≤ k) : Reads (oneOfP en texts) [⟨kind, t⟩] k := by
  intro us r hu
  obtain ⟨u, vs, rfl, h1, h2, h3⟩ := map_cons_kt hu
  rw [map_nil_kt h3]
  unfold oneOfP
  have e : (decide (0 ≤ idxA texts (headT en ([u] ++ r)).text 0) && ((headT en ([u] ++ r)).kind != 0)) = true := by
    show (decide (0 ≤ idxA texts u.text 0) && (u.kind != 0)) = true
    rw [h2, h1]
    simp [hi, h0, hk]
  rw [e]
  show PR.ok (idxA texts u.text 0) r = _
  rw [h2]
  show PR.ok (idxA texts t 0) r = _
  rw [hi]
theorem idx_op (op : Int) (h : 1 ≤ op ∧ op ≤ 4) : idxA opWL (opWB op) 0 = op ∧ isTok 3 (opWB op) = true := by
  have : op = 1 ∨ op = 2 ∨ op = 3 ∨ op = 4 := by omega
  rcases this with rfl | rfl | rfl | rfl <;> exact ⟨by simp [idxA, opWL, opWB, ba_list], by decide⟩
def conWB (k : Int) : ByteArray := conWL.getD k.toNat ByteArray.empty
theorem idx_con (k : Int) (h : 1 ≤ k ∧ k ≤ 10) : idxA conWL (conWB k) 0 = k ∧ isTok 1 (conWB k) = true := by
  have : k = 1 ∨ k = 2 ∨ k = 3 ∨ k = 4 ∨ k = 5 ∨ k = 6 ∨ k = 7 ∨ k = 8 ∨ k = 9 ∨ k = 10 := by omega
  rcases this with rfl | rfl | rfl | rfl | rfl | rfl | rfl | rfl | rfl | rfl <;> exact ⟨by simp [idxA, conWL, conWB, ba_list], by decide⟩
def goalWB (k : Int) : ByteArray := goalWL.getD k.toNat ByteArray.empty
theorem idx_goal (k : Int) (h : 0 ≤ k ∧ k ≤ 2) : idxA goalWL (goalWB k) 0 = k ∧ isTok 1 (goalWB k) = true := by
  have : k = 0 ∨ k = 1 ∨ k = 2 := by omega
  rcases this with rfl | rfl | rfl <;> exact ⟨by simp [idxA, goalWL, goalWB, ba_list], by decide⟩
def litK (vars : List MVar) (t : MLit) : List KT := nameK vars t.var ++ ([⟨3, opWB t.op⟩] ++ (numK t.n ++ []))
def LitOk (vars : List MVar) (t : MLit) : Prop := (0 ≤ t.var ∧ t.var < vars.length) ∧ (1 ≤ t.op ∧ t.op ≤ 4) ∧ (-1000 ≤ t.n ∧ t.n ≤ 1000)
theorem lit_bytes (vars : List MVar) (t : MLit) : (plitB vars t).data.toList = (nameOf vars t.var).data.toList ++ (32 :: ((opWB t.op).data.toList ++ (32 :: (numB t.n).data.toList))) := by
  unfold plitB
  rw [ByteArray.data_append, ByteArray.data_append, ByteArray.data_append, ByteArray.data_append]
  simp
theorem pc_lit {vars : List MVar} (h : NamesOk vars) {t : MLit} (ht : LitOk vars t) : Pc1 (plitB vars t).data.toList (litK vars t) := by
  rw [lit_bytes]
  have hnum := pc_num t.n (by have := ht.2.2; omega)
  have hop := pc_sign ⟨3, opWB t.op⟩ (idx_op t.op ht.2.1).2 rfl
  have h1 : Pc1 ((opWB t.op).data.toList ++ (32 :: (numB t.n).data.toList)) ([⟨3, opWB t.op⟩] ++ (numK t.n ++ [])) := by
    rw [List.append_nil]
    exact hop.app1 (pc_blank hnum (by decide))
  exact (pc_name h ht.1).app1 (pc_blank h1 (by decide)) fun l => nw_cons (by decide)
theorem reads_lit (en : Int) {vars : List MVar} (h : NamesOk vars) {t : MLit} (ht : LitOk vars t) : Reads (litP en (vars.map MVar.name)) (litK vars t) t := by
  refine Reads.bind (f := fun v l => (oneOfP en opWL l).bind fun op l => (numberP en l).bind fun n l => PR.ok (⟨v, op, n⟩ : MLit) l) (reads_name en h ht.1) ?_
  refine Reads.bind (f := fun op l => (numberP en l).bind fun n l => PR.ok (⟨t.var, op, n⟩ : MLit) l) (oneOf_reads en opWL _ _ 3 (by decide) (idx_op t.op ht.2.1).1 (by have := ht.2.1; omega)) ?_
  refine Reads.bind (f := fun n l => PR.ok (⟨t.var, t.op, n⟩ : MLit) l) (reads_num en t.n) ?_
  exact reads_done t
theorem opens_lit {vars : List MVar} (h : NamesOk vars) {t : MLit} (ht : LitOk vars t) : Opens (litK vars t) := by
  obtain ⟨a, r, e, hn⟩ := opens_name h ht.1
  exact ⟨a, r ++ ([⟨3, opWB t.op⟩] ++ (numK t.n ++ [])), by unfold litK; rw [e]; rfl, hn⟩
/-- What a constraint has behind its word, part by part; and its tokens. -/
def partsB (vars : List MVar) (c : MCon) : List ByteArray :=
  if c.kind = 1 ∨ c.kind = 2 ∨ c.kind = 3 then [numsB c.consts, brackB (c.vars.map (nameOf vars)), numB c.n]
  else if c.kind = 4 then [brackB (c.vars.map (nameOf vars))]
  else if c.kind = 5 then [numsB c.consts, nameOf vars (c.vars.getD 0 0), nameOf vars (c.vars.getD 1 0)]
  else if c.kind = 6 then [brackB (c.vars.map (nameOf vars)), brackB (c.rows.map numsB)]
  else if c.kind = 7 then [nameOf vars (c.vars.getD 0 0), nameOf vars (c.vars.getD 1 0), nameOf vars (c.vars.getD 2 0)]
  else if c.kind = 8 then [nameOf vars (c.vars.getD 0 0), brackB ((c.vars.drop 1).map (nameOf vars))]
  else if c.kind = 9 then [brackB (c.lits.map (plitB vars))]
  else if c.kind = 10 then [nameOf vars (c.vars.getD 0 0), plitB vars (c.lits.getD 0 ⟨0, 0, 0⟩)]
  else []
def namesK (vars : List MVar) (l : List Int) : List KT := brackK (nameK vars) l
def numsK (l : List Int) : List KT := brackK numK l
def partsQ (vars : List MVar) (c : MCon) : List (ByteArray × List KT) :=
  if c.kind = 1 ∨ c.kind = 2 ∨ c.kind = 3 then [(numsB c.consts, numsK c.consts), (brackB (c.vars.map (nameOf vars)), namesK vars c.vars), (numB c.n, numK c.n)]
  else if c.kind = 4 then [(brackB (c.vars.map (nameOf vars)), namesK vars c.vars)]
  else if c.kind = 5 then [(numsB c.consts, numsK c.consts), (nameOf vars (c.vars.getD 0 0), nameK vars (c.vars.getD 0 0)), (nameOf vars (c.vars.getD 1 0), nameK vars (c.vars.getD 1 0))]
  else if c.kind = 6 then [(brackB (c.vars.map (nameOf vars)), namesK vars c.vars), (brackB (c.rows.map numsB), brackK numsK c.rows)]
  else if c.kind = 7 then [(nameOf vars (c.vars.getD 0 0), nameK vars (c.vars.getD 0 0)), (nameOf vars (c.vars.getD 1 0), nameK vars (c.vars.getD 1 0)), (nameOf vars (c.vars.getD 2 0), nameK vars (c.vars.getD 2 0))]
  else if c.kind = 8 then [(nameOf vars (c.vars.getD 0 0), nameK vars (c.vars.getD 0 0)), (brackB ((c.vars.drop 1).map (nameOf vars)), namesK vars (c.vars.drop 1))]
  else if c.kind = 9 then [(brackB (c.lits.map (plitB vars)), brackK (litK vars) c.lits)]
  else if c.kind = 10 then [(nameOf vars (c.vars.getD 0 0), nameK vars (c.vars.getD 0 0)), (plitB vars (c.lits.getD 0 ⟨0, 0, 0⟩), litK vars (c.lits.getD 0 ⟨0, 0, 0⟩))]
  else []
theorem parts_fst (vars : List MVar) (c : MCon) : (partsQ vars c).map (·.1) = partsB vars c := by
  unfold partsQ partsB
  split; · rfl
  split; · rfl
  split; · rfl
  split; · rfl
  split; · rfl
  split; · rfl
  split; · rfl
  split; · rfl
  rfl
/-- What a right constraint is. -/
structure ConOk (n : Nat) (c : MCon) : Prop where
  kind : 1 ≤ c.kind ∧ c.kind ≤ 10
  many : manyB c = false
  form : formB c = true
  vars : ∀ v ∈ c.vars, 0 ≤ v ∧ v < n
  consts : ∀ x ∈ c.consts, -1000 ≤ x ∧ x ≤ 1000
  num : -1000 ≤ c.n ∧ c.n ≤ 1000
  rows : ∀ r ∈ c.rows, ∀ x ∈ r, -1000 ≤ x ∧ x ≤ 1000
  lits : ∀ l ∈ c.lits, (0 ≤ l.var ∧ l.var < n) ∧ (1 ≤ l.op ∧ l.op ≤ 4) ∧ (-1000 ≤ l.n ∧ l.n ≤ 1000)
theorem isConst_iff (x : Int) : isConstB x = true ↔ -1000 ≤ x ∧ x ≤ 1000 := by simp [isConstB, inB]
theorem isVar_iff (v n : Int) : isVarB v n = true ↔ 0 ≤ v ∧ v < n := by simp [isVarB]
theorem conE_ok (n : Nat) (c : MCon) (h : conE n c = 0) : ConOk n c := by
  unfold conE at h
  split at h
  · rename_i hk
    split at h
    · cases h
    · rename_i hm
      split at h
      · rename_i hf
        split at h
        · rename_i hv
          split at h
          · rename_i hc
            unfold varsB at hv
            unfold constsB at hc
            unfold litsE at h
            simp only [Bool.and_eq_true, List.all_eq_true, isVar_iff, isConst_iff] at hv hc
            split at h
            · rename_i ho
              split at h
              · rename_i hn
                simp only [List.all_eq_true, Bool.and_eq_true, decide_eq_true_eq, isConst_iff] at ho hn
                exact ⟨hk, by simpa using hm, hf, hv.1, hc.1, hc.2.1, hc.2.2, fun l hl => ⟨hv.2 l hl, ho l hl, hn l hl⟩⟩
              · cases h
            · cases h
          · cases h
        · cases h
      · cases h
  · cases h
theorem getD_mem {l : List Int} {i : Nat} (h : i < l.length) : l.getD i 0 ∈ l := by
  rw [List.getD_eq_getElem?_getD, List.getElem?_eq_getElem h]; exact List.getElem_mem h
theorem pc_nums (l : List Int) (h : ∀ x ∈ l, -1000 ≤ x ∧ x ≤ 1000) : Pc0 (numsB l).data.toList (numsK l) := pc_brack numB numK l fun x hx => pc_num x (by have := h x hx; omega)
theorem pc_names {vars : List MVar} (h : NamesOk vars) (l : List Int) (hl : ∀ x ∈ l, 0 ≤ x ∧ x < vars.length) : Pc0 (brackB (l.map (nameOf vars))).data.toList (namesK vars l) := pc_brack _ _ l fun x hx => pc_name h (hl x hx)
theorem form_len (c : MCon) (h : formB c = true) : (c.kind = 5 → c.vars.length = 2) ∧ (c.kind = 7 → c.vars.length = 3) ∧ (c.kind = 8 → 2 ≤ c.vars.length) ∧ (c.kind = 10 → c.vars.length = 1 ∧ c.lits.length = 1) := by
  unfold formB at h
  refine ⟨fun e => ?_, fun e => ?_, fun e => ?_, fun e => ?_⟩ <;> (rw [e] at h; simp at h) 
  · exact h.2.1
  · exact h.2.1
  · exact h.2.1
  · exact ⟨h.2.1, h.2.2.1⟩
theorem pc_parts {vars : List MVar} (h : NamesOk vars) {c : MCon} (hc : ConOk vars.length c) : ∀ x ∈ partsQ vars c, Pc1 x.1.data.toList x.2 := by
  obtain ⟨f5, f7, f8, f10⟩ := form_len c hc.form
  have hv : ∀ i : Nat, i < c.vars.length → Pc1 (nameOf vars (c.vars.getD i 0)).data.toList (nameK vars (c.vars.getD i 0)) := fun i hi => pc_name h (hc.vars _ (getD_mem hi))
  have hns := pc_names h c.vars hc.vars
  have hcs := pc_nums c.consts hc.consts
  unfold partsQ
  split
  · simp only [List.forall_mem_cons, List.not_mem_nil, false_imp_iff, implies_true, and_true]
    exact ⟨hcs.one, hns.one, pc_num _ (by have := hc.num; omega)⟩
  split
  · simp only [List.forall_mem_cons, List.not_mem_nil, false_imp_iff, implies_true, and_true]
    exact hns.one
  split
  · rename_i hk
    have := f5 hk
    simp only [List.forall_mem_cons, List.not_mem_nil, false_imp_iff, implies_true, and_true]
    exact ⟨hcs.one, hv 0 (by omega), hv 1 (by omega)⟩
  split
  · simp only [List.forall_mem_cons, List.not_mem_nil, false_imp_iff, implies_true, and_true]
    exact ⟨hns.one, (pc_brack numsB numsK c.rows fun r hr => (pc_nums r (hc.rows r hr)).one).one⟩
  split
  · rename_i hk
    have := f7 hk
    simp only [List.forall_mem_cons, List.not_mem_nil, false_imp_iff, implies_true, and_true]
    exact ⟨hv 0 (by omega), hv 1 (by omega), hv 2 (by omega)⟩
  split
  · rename_i hk
    have := f8 hk
    simp only [List.forall_mem_cons, List.not_mem_nil, false_imp_iff, implies_true, and_true]
    exact ⟨hv 0 (by omega), (pc_names h _ fun x hx => hc.vars x (List.mem_of_mem_drop hx)).one⟩
  split
  · simp only [List.forall_mem_cons, List.not_mem_nil, false_imp_iff, implies_true, and_true]
    exact (pc_brack (plitB vars) (litK vars) c.lits fun l hl => pc_lit h (hc.lits l hl)).one
  split
  · rename_i hk
    have := f10 hk
    simp only [List.forall_mem_cons, List.not_mem_nil, false_imp_iff, implies_true, and_true]
    refine ⟨hv 0 (by omega), pc_lit h (hc.lits _ ?_)⟩
    rw [List.getD_eq_getElem?_getD, List.getElem?_eq_getElem (show 0 < c.lits.length by omega)]; exact List.getElem_mem _
  · intro x hx; cases hx
def bodyK (vars : List MVar) (c : MCon) : List KT := (partsQ vars c).flatMap (·.2)
theorem len_zero {α : Type} {l : List α} (h : l.length = 0) : l = [] := List.eq_nil_of_length_eq_zero h
theorem reads_body (en : Int) {vars : List MVar} (h : NamesOk vars) {c : MCon} (hc : ConOk vars.length c) : Reads (bodyP en (vars.map MVar.name) c.kind) (bodyK vars c) c := by
  obtain ⟨hk, _, hf, hv, hcs, hn, hr, hl⟩ := hc
  obtain ⟨kind, vs, cs, n, rows, lits⟩ := c
  simp only at hk hf hv hcs hn hr hl
  have rNames : ∀ l : List Int, (∀ x ∈ l, 0 ≤ x ∧ x < vars.length) → Reads (readP en (nameP en (vars.map MVar.name))) (namesK vars l) l := fun l hl => reads_brack en _ _ l (fun x hx => reads_name en h (hl x hx)) (fun x hx => opens_name h (hl x hx))
  have rNums : ∀ l : List Int, Reads (readP en (numberP en)) (numsK l) l := fun l => reads_brack en _ _ l (fun x _ => reads_num en x) (fun x _ => opens_num x)
  have hcases : (kind = 1 ∨ kind = 2 ∨ kind = 3) ∨ kind = 4 ∨ kind = 5 ∨ kind = 6 ∨ kind = 7 ∨ kind = 8 ∨ kind = 9 ∨ kind = 10 := by omega
  unfold formB at hf
  unfold bodyK partsQ
  rcases hcases with hk | rfl | rfl | rfl | rfl | rfl | rfl | rfl
  · simp only [hk, if_true] at hf ⊢
    simp only [Bool.and_eq_true, decide_eq_true_eq] at hf
    obtain rfl := len_zero (show rows.length = 0 by omega)
    obtain rfl := len_zero (show lits.length = 0 by omega)
    have e : bodyP en (vars.map MVar.name) kind = fun l => (readP en (numberP en) l).bind fun cs l => (readP en (nameP en (vars.map MVar.name)) l).bind fun vs l => (numberP en l).bind fun n l => .ok ⟨kind, vs, cs, n, [], []⟩ l := by
      funext l; unfold bodyP; rw [if_pos hk]
    rw [e]
    refine Reads.bind (rNums cs) (Reads.bind (rNames vs hv) (Reads.bind (reads_num en n) (reads_done _)))
  · simp at hf ⊢
    obtain ⟨rfl, hf⟩ := hf
    obtain rfl := len_zero (show rows.length = 0 by simp [hf])
    obtain rfl := len_zero (show lits.length = 0 by simp [hf])
    obtain rfl := len_zero (show cs.length = 0 by simp [hf])
    have e : bodyP en (vars.map MVar.name) 4 = fun l => (readP en (nameP en (vars.map MVar.name)) l).bind fun vs l => .ok ⟨4, vs, [], 0, [], []⟩ l := by
      funext l; simp [bodyP]
    rw [e]
    have := Reads.bind (f := fun vs l => PR.ok (⟨4, vs, [], 0, [], []⟩ : MCon) l) (rNames vs hv) (reads_done _)
    simpa using this
  · simp at hf ⊢
    obtain ⟨rfl, hf⟩ := hf
    obtain rfl := len_zero (show rows.length = 0 by simp [hf])
    obtain rfl := len_zero (show lits.length = 0 by simp [hf])
    obtain ⟨a, b, rfl⟩ : ∃ a b, vs = [a, b] := by
      have h2 : vs.length = 2 := hf.1
      match vs, h2 with
      | [a, b], _ => exact ⟨a, b, rfl⟩
    have e : bodyP en (vars.map MVar.name) 5 = fun l => (readP en (numberP en) l).bind fun cs l => (nameP en (vars.map MVar.name) l).bind fun a l => (nameP en (vars.map MVar.name) l).bind fun b l => .ok ⟨5, [a, b], cs, 0, [], []⟩ l := by
      funext l; simp [bodyP]
    rw [e]
    have := Reads.bind (f := fun cs l => (nameP en (vars.map MVar.name) l).bind fun a l => (nameP en (vars.map MVar.name) l).bind fun b l => PR.ok (⟨5, [a, b], cs, 0, [], []⟩ : MCon) l) (rNums cs) (Reads.bind (reads_name en h (hv a (by simp))) (Reads.bind (reads_name en h (hv b (by simp))) (reads_done _)))
    simpa using this
  · simp at hf ⊢
    obtain ⟨rfl, hf⟩ := hf
    obtain rfl := len_zero (show cs.length = 0 by simp [hf])
    obtain rfl := len_zero (show lits.length = 0 by simp [hf])
    have e : bodyP en (vars.map MVar.name) 6 = fun l => (readP en (nameP en (vars.map MVar.name)) l).bind fun vs l => (readP en (readP en (numberP en)) l).bind fun rs l => .ok ⟨6, vs, [], 0, rs, []⟩ l := by
      funext l; simp [bodyP]
    rw [e]
    have := Reads.bind (f := fun vs l => (readP en (readP en (numberP en)) l).bind fun rs l => PR.ok (⟨6, vs, [], 0, rs, []⟩ : MCon) l) (rNames vs hv) (Reads.bind (reads_brack en _ numsK rows (fun r _ => rNums r) (fun r _ => opens_brack _ r)) (reads_done _))
    simpa using this
  · simp at hf ⊢
    obtain ⟨rfl, hf⟩ := hf
    obtain rfl := len_zero (show rows.length = 0 by simp [hf])
    obtain rfl := len_zero (show lits.length = 0 by simp [hf])
    obtain rfl := len_zero (show cs.length = 0 by simp [hf])
    obtain ⟨a, b, d, rfl⟩ : ∃ a b d, vs = [a, b, d] := by
      have h2 : vs.length = 3 := hf.1
      match vs, h2 with
      | [a, b, d], _ => exact ⟨a, b, d, rfl⟩
    have e : bodyP en (vars.map MVar.name) 7 = fun l => (nameP en (vars.map MVar.name) l).bind fun a l => (nameP en (vars.map MVar.name) l).bind fun b l => (nameP en (vars.map MVar.name) l).bind fun c l => .ok ⟨7, [a, b, c], [], 0, [], []⟩ l := by
      funext l; simp [bodyP]
    rw [e]
    have := Reads.bind (f := fun a l => (nameP en (vars.map MVar.name) l).bind fun b l => (nameP en (vars.map MVar.name) l).bind fun c l => PR.ok (⟨7, [a, b, c], [], 0, [], []⟩ : MCon) l) (reads_name en h (hv a (by simp))) (Reads.bind (reads_name en h (hv b (by simp))) (Reads.bind (reads_name en h (hv d (by simp))) (reads_done _)))
    simpa using this
  · simp at hf ⊢
    obtain ⟨rfl, hf⟩ := hf
    obtain rfl := len_zero (show rows.length = 0 by simp [hf])
    obtain rfl := len_zero (show lits.length = 0 by simp [hf])
    obtain rfl := len_zero (show cs.length = 0 by simp [hf])
    obtain ⟨a, q, rfl⟩ : ∃ a q, vs = a :: q := by
      have h2 : 2 ≤ vs.length := hf.1
      match vs, h2 with
      | a :: q, _ => exact ⟨a, q, rfl⟩
    have e : bodyP en (vars.map MVar.name) 8 = fun l => (nameP en (vars.map MVar.name) l).bind fun a l => (readP en (nameP en (vars.map MVar.name)) l).bind fun vs l => .ok ⟨8, [a] ++ vs, [], 0, [], []⟩ l := by
      funext l; simp [bodyP]
    rw [e]
    have := Reads.bind (f := fun a l => (readP en (nameP en (vars.map MVar.name)) l).bind fun vs l => PR.ok (⟨8, [a] ++ vs, [], 0, [], []⟩ : MCon) l) (reads_name en h (hv a (by simp))) (Reads.bind (rNames q (fun x hx => hv x (by simp [hx]))) (reads_done _))
    simpa using this
  · simp at hf ⊢
    obtain ⟨rfl, hf⟩ := hf
    obtain rfl := len_zero (show rows.length = 0 by simp [hf])
    obtain rfl := len_zero (show vs.length = 0 by simp [hf])
    obtain rfl := len_zero (show cs.length = 0 by simp [hf])
    have e : bodyP en (vars.map MVar.name) 9 = fun l => (readP en (litP en (vars.map MVar.name)) l).bind fun ls l => .ok ⟨9, [], [], 0, [], ls⟩ l := by
      funext l; simp [bodyP]
    rw [e]
    have := Reads.bind (f := fun ls l => PR.ok (⟨9, [], [], 0, [], ls⟩ : MCon) l) (reads_brack en _ (litK vars) lits (fun t ht => reads_lit en h (hl t ht)) (fun t ht => opens_lit h (hl t ht))) (reads_done _)
    simpa using this
  · simp at hf ⊢
    obtain ⟨rfl, hf⟩ := hf
    obtain rfl := len_zero (show rows.length = 0 by simp [hf])
    obtain rfl := len_zero (show cs.length = 0 by simp [hf])
    obtain ⟨a, rfl⟩ : ∃ a, vs = [a] := List.length_eq_one_iff.1 hf.1
    obtain ⟨t, rfl⟩ : ∃ t, lits = [t] := List.length_eq_one_iff.1 hf.2.1
    have e : bodyP en (vars.map MVar.name) 10 = fun l => (nameP en (vars.map MVar.name) l).bind fun a l => (litP en (vars.map MVar.name) l).bind fun t l => .ok ⟨10, [a], [], 0, [], [t]⟩ l := by
      funext l; simp [bodyP]
    rw [e]
    have := Reads.bind (f := fun a l => (litP en (vars.map MVar.name) l).bind fun t l => PR.ok (⟨10, [a], [], 0, [], [t]⟩ : MCon) l) (reads_name en h (hv a (by simp))) (Reads.bind (reads_lit en h (hl t (by simp))) (reads_done _))
    simpa using this
theorem reads_bind' {α β : Type} {p : List Tok → PR β} {item : List Tok → PR α} {f : α → List Tok → PR β} {ka kb : List KT} {x : α} {y : β} (e : p = fun l => (item l).bind f) (h : Reads item ka x) (h2 : Reads (f x) kb y) : Reads p (ka ++ kb) y := by
  rw [e]; exact Reads.bind h h2
def varT : KT := ⟨1, varW⟩
def conT : KT := ⟨1, conW⟩
def solveT : KT := ⟨1, solveW⟩
def varK (v : MVar) : List KT := varT :: ([⟨1, v.name⟩] ++ (⟨3, colW⟩ :: (numK v.lo ++ (⟨3, dotsW⟩ :: (numK v.hi ++ (⟨3, semiW⟩ :: []))))))
def VarOk (v : MVar) : Prop := isNameB v.name = true ∧ -50 ≤ v.lo ∧ v.lo ≤ 50 ∧ -50 ≤ v.hi ∧ v.hi ≤ 50
def varLine (v : MVar) : List UInt8 := lineL [varW, v.name ++ colW, numB v.lo ++ dotsW ++ numB v.hi]
theorem pc_var {v : MVar} (h : VarOk v) : Pc0 (varLine v) (varK v) := by
  have ht : isTok 1 v.name = true := by have := h.1; unfold isNameB at this; rw [Bool.and_eq_true] at this; exact this.1
  have h1 : Pc1 varW.data.toList [varT] := pc_tok varT (by decide)
  have hcol : Pc0 colW.data.toList [⟨3, colW⟩] := pc_sign ⟨3, colW⟩ (by decide) rfl
  have hdots : Pc0 dotsW.data.toList [⟨3, dotsW⟩] := pc_sign ⟨3, dotsW⟩ (by decide) rfl
  have h2 : Pc1 (v.name ++ colW).data.toList ([⟨1, v.name⟩] ++ [⟨3, colW⟩]) := by
    rw [ByteArray.data_append, Array.toList_append]
    exact ((pc_tok ⟨1, v.name⟩ ht).app hcol fun l => nw_cons (by decide)).one
  have h3 : Pc1 (numB v.lo ++ dotsW ++ numB v.hi).data.toList (numK v.lo ++ ([⟨3, dotsW⟩] ++ numK v.hi)) := by
    rw [ByteArray.data_append, ByteArray.data_append, Array.toList_append, Array.toList_append, List.append_assoc]
    exact (pc_num v.lo (by have := h.2; omega)).app1 (hdots.app1 (pc_num v.hi (by have := h.2; omega))) fun l => nw_cons (by decide)
  have := pc_line [(varW, [varT]), (v.name ++ colW, [⟨1, v.name⟩] ++ [⟨3, colW⟩]), (numB v.lo ++ dotsW ++ numB v.hi, numK v.lo ++ ([⟨3, dotsW⟩] ++ numK v.hi))] (by
    simp only [List.forall_mem_cons, List.not_mem_nil, false_imp_iff, implies_true, and_true]
    exact ⟨h1, h2, h3⟩) (by simp)
  have e : varK v = ([(varW, [varT]), (v.name ++ colW, [⟨1, v.name⟩] ++ [⟨3, colW⟩]), (numB v.lo ++ dotsW ++ numB v.hi, numK v.lo ++ ([⟨3, dotsW⟩] ++ numK v.hi))] : List (ByteArray × List KT)).flatMap (·.2) ++ [semiT] := by
    simp [varK, semiT]
  rw [e]
  exact this
theorem nameB_ok {s : ByteArray} (h : isNameB s = true) : nameB s = true := by
  unfold nameB
  have h1 : varE [] ⟨s, 0, 0⟩ = 0 := by
    unfold varE
    rw [if_pos h, if_neg (by simp), if_pos (by simp [inB]), if_neg (by simp)]
  have h2 : varsE [⟨s, 0, 0⟩] = 0 := by
    show firstE [varE [] ⟨s, 0, 0⟩] = 0
    rw [h1]; rfl
  have h3 : checkM ⟨[⟨s, 0, 0⟩], [], 0, 0⟩ = 0 := by
    unfold checkM
    rw [if_neg (by simp), if_neg (by simp)]
    simp only [h2, if_true]
    rfl
  rw [h3]; rfl
theorem reads_newName (en : Int) {s : ByteArray} (h : isNameB s = true) (k : Int) : Reads (newNameP en) [⟨k, s⟩] s := by
  intro us r hu
  obtain ⟨u, vs, rfl, h1, h2, h3⟩ := map_cons_kt hu
  rw [map_nil_kt h3]
  unfold newNameP
  have e : nameB (headT en ([u] ++ r)).text = true := by show nameB u.text = true; rw [h2]; exact nameB_ok h
  rw [e]
  show PR.ok u.text r = _
  rw [h2]
theorem reads_var (en : Int) {v : MVar} (h : VarOk v) : Reads (newVarP en) (varK v) v := by
  refine reads_skip en varW (f := fun _ l => (newNameP en l).bind fun n l => (skipP en colW l).bind fun _ l => (numberP en l).bind fun lo l => (skipP en dotsW l).bind fun _ l => (numberP en l).bind fun hi l => (skipP en semiW l).bind fun _ l => PR.ok (⟨n, lo, hi⟩ : MVar) l) fun _ => ?_
  refine Reads.bind (f := fun n l => (skipP en colW l).bind fun _ l => (numberP en l).bind fun lo l => (skipP en dotsW l).bind fun _ l => (numberP en l).bind fun hi l => (skipP en semiW l).bind fun _ l => PR.ok (⟨n, lo, hi⟩ : MVar) l) (reads_newName en h.1 1) ?_
  refine reads_skip en colW (f := fun _ l => (numberP en l).bind fun lo l => (skipP en dotsW l).bind fun _ l => (numberP en l).bind fun hi l => (skipP en semiW l).bind fun _ l => PR.ok (⟨v.name, lo, hi⟩ : MVar) l) fun _ => ?_
  refine Reads.bind (f := fun lo l => (skipP en dotsW l).bind fun _ l => (numberP en l).bind fun hi l => (skipP en semiW l).bind fun _ l => PR.ok (⟨v.name, lo, hi⟩ : MVar) l) (reads_num en v.lo) ?_
  refine reads_skip en dotsW (f := fun _ l => (numberP en l).bind fun hi l => (skipP en semiW l).bind fun _ l => PR.ok (⟨v.name, v.lo, hi⟩ : MVar) l) fun _ => ?_
  refine Reads.bind (f := fun hi l => (skipP en semiW l).bind fun _ l => PR.ok (⟨v.name, v.lo, hi⟩ : MVar) l) (reads_num en v.hi) ?_
  exact reads_skip en semiW (f := fun _ l => PR.ok v l) fun _ => reads_done v
def conK (vars : List MVar) (c : MCon) : List KT := conT :: ([⟨1, conWB c.kind⟩] ++ (bodyK vars c ++ (⟨3, semiW⟩ :: [])))
def conLine (vars : List MVar) (c : MCon) : List UInt8 := lineL ([conW, conWB c.kind] ++ partsB vars c)
theorem pc_con {vars : List MVar} (h : NamesOk vars) {c : MCon} (hc : ConOk vars.length c) : Pc0 (conLine vars c) (conK vars c) := by
  have := pc_line ((conW, [conT]) :: (conWB c.kind, [⟨1, conWB c.kind⟩]) :: partsQ vars c) (by
    simp only [List.forall_mem_cons]
    exact ⟨pc_tok conT (by decide), pc_tok ⟨1, conWB c.kind⟩ (idx_con c.kind hc.kind).2, pc_parts h hc⟩) (by simp)
  have e1 : conLine vars c = lineL (((conW, [conT]) :: (conWB c.kind, [⟨1, conWB c.kind⟩]) :: partsQ vars c).map (·.1)) := by
    rw [List.map_cons, List.map_cons, parts_fst]; rfl
  have e2 : conK vars c = ((conW, [conT]) :: (conWB c.kind, [⟨1, conWB c.kind⟩]) :: partsQ vars c).flatMap (·.2) ++ [semiT] := by
    simp [conK, bodyK, semiT]
  rw [e1, e2]
  exact this
theorem reads_con (en : Int) {vars : List MVar} (h : NamesOk vars) {c : MCon} (hc : ConOk vars.length c) : Reads (conP en (vars.map MVar.name)) (conK vars c) c := by
  refine reads_skip en conW (f := fun _ l => (oneOfP en conWL l).bind fun k l => (bodyP en (vars.map MVar.name) k l).bind fun c l => (skipP en semiW l).bind fun _ l => .ok c l) fun _ => ?_
  refine Reads.bind (f := fun k l => (bodyP en (vars.map MVar.name) k l).bind fun c l => (skipP en semiW l).bind fun _ l => .ok c l) (oneOf_reads en conWL _ _ 1 (by decide) (idx_con c.kind hc.kind).1 (by have := hc.kind; omega)) ?_
  refine Reads.bind (f := fun c l => (skipP en semiW l).bind fun _ l => .ok c l) (reads_body en h hc) ?_
  exact reads_skip en semiW (f := fun _ l => PR.ok c l) fun _ => reads_done c
def goalK (m : Mod) : List KT := solveT :: ([⟨1, goalWB m.goal⟩] ++ (if m.goal = 0 then ⟨3, semiW⟩ :: [] else nameK m.vars m.var ++ (⟨3, semiW⟩ :: [])))
def goalLine (m : Mod) : List UInt8 := if m.goal = 0 then lineL [solveW, goalWB m.goal] else lineL [solveW, goalWB m.goal, nameOf m.vars m.var]
def GoalOk (m : Mod) : Prop := (m.goal = 0 ∧ m.var = 0) ∨ ((m.goal = 1 ∨ m.goal = 2) ∧ 0 ≤ m.var ∧ m.var < m.vars.length)
theorem pc_goal {m : Mod} (h : NamesOk m.vars) (hg : GoalOk m) : Pc0 (goalLine m) (goalK m) := by
  have hw : isTok 1 (goalWB m.goal) = true := (idx_goal m.goal (by unfold GoalOk at hg; omega)).2
  unfold goalLine goalK
  rcases hg with ⟨h0, _⟩ | ⟨h0, h1⟩
  · rw [if_pos h0, if_pos h0]
    have := pc_line [(solveW, [solveT]), (goalWB m.goal, [⟨1, goalWB m.goal⟩])] (by
      simp only [List.forall_mem_cons, List.not_mem_nil, false_imp_iff, implies_true, and_true]
      exact ⟨pc_tok solveT (by decide), pc_tok ⟨1, goalWB m.goal⟩ hw⟩) (by simp)
    simpa [semiT] using this
  · rw [if_neg (by omega), if_neg (by omega)]
    have := pc_line [(solveW, [solveT]), (goalWB m.goal, [⟨1, goalWB m.goal⟩]), (nameOf m.vars m.var, nameK m.vars m.var)] (by
      simp only [List.forall_mem_cons, List.not_mem_nil, false_imp_iff, implies_true, and_true]
      exact ⟨pc_tok solveT (by decide), pc_tok ⟨1, goalWB m.goal⟩ hw, pc_name h h1⟩) (by simp)
    simpa [semiT] using this
theorem reads_goal (en : Int) {m : Mod} (h : NamesOk m.vars) (hg : GoalOk m) : Reads (goalP en (m.vars.map MVar.name)) (goalK m) (m.goal, m.var) := by
  have hw := (idx_goal m.goal (by unfold GoalOk at hg; omega)).1
  refine reads_skip en solveW (f := fun _ l => (oneOfP en goalWL l).bind fun g l => if g = 0 then (skipP en semiW l).bind fun _ l => .ok (g, 0) l else (nameP en (m.vars.map MVar.name) l).bind fun v l => (skipP en semiW l).bind fun _ l => .ok (g, v) l) fun _ => ?_
  refine Reads.bind (f := fun g l => if g = 0 then (skipP en semiW l).bind fun _ l => .ok (g, 0) l else (nameP en (m.vars.map MVar.name) l).bind fun v l => (skipP en semiW l).bind fun _ l => .ok (g, v) l) (oneOf_reads en goalWL _ _ 1 (by decide) hw (by unfold GoalOk at hg; omega)) ?_
  rcases hg with ⟨h0, h2⟩ | ⟨h0, h1⟩
  · simp only [h0, if_true]
    rw [h2]
    exact reads_skip en semiW (f := fun _ l => PR.ok ((0 : Int), (0 : Int)) l) fun _ => reads_done _
  · simp only [if_neg (show ¬ m.goal = 0 by omega)]
    refine Reads.bind (f := fun v l => (skipP en semiW l).bind fun _ l => .ok (m.goal, v) l) (reads_name en h h1) ?_
    exact reads_skip en semiW (f := fun _ l => PR.ok (m.goal, m.var) l) fun _ => reads_done _
theorem flat_pc {α : Type} (f : α → List UInt8) (g : α → List KT) : ∀ (l : List α), (∀ x ∈ l, Pc0 (f x) (g x)) → Pc0 (l.flatMap f) (l.flatMap g)
  | [], _ => pc_nil
  | x :: l, h => by
    rw [List.flatMap_cons, List.flatMap_cons]
    exact (h x (List.mem_cons_self ..)).app (flat_pc f g l fun y hy => h y (List.mem_cons_of_mem _ hy))
theorem vars_reads (en : Int) : ∀ (vs : List MVar), (∀ v ∈ vs, VarOk v) → ∀ (f : Nat) (acc : List MVar) (us r : List Tok), us.map ktOf = vs.flatMap varK → vs.length < f → (headT en r).text.data.toList ≠ [118, 97, 114] →
    varsP en f acc (us ++ r) = .ok (acc ++ vs) r
  | _, _, 0, _, _, _, _, hf, _ => by omega
  | [], _, f + 1, acc, us, r, hu, _, hr => by
    rw [map_nil_kt hu]
    show varsP en (f + 1) acc r = _
    unfold varsP
    rw [if_neg (by rw [ba_list]; simpa using hr), List.append_nil]
  | v :: vs, h, f + 1, acc, us, r, hu, hf, hr => by
    rw [List.flatMap_cons] at hu
    obtain ⟨a, b, rfl, h1, h2⟩ := map_app_kt hu
    obtain ⟨u, q, e, h3, h4, _⟩ := map_cons_kt (show a.map ktOf = varT :: _ from h1)
    rw [List.append_assoc]
    unfold varsP
    rw [if_pos (by rw [e]; show (u.text.toList == [118, 97, 114]) = true; rw [ba_list, h4]; rfl)]
    rw [reads_var en (h v (List.mem_cons_self ..)) a (b ++ r) h1]
    show varsP en f (acc ++ [v]) (b ++ r) = _
    rw [vars_reads en vs (fun y hy => h y (List.mem_cons_of_mem _ hy)) f (acc ++ [v]) b r h2 (by simp at hf; omega) hr]
    simp
theorem cons_reads (en : Int) {vars : List MVar} (hn : NamesOk vars) : ∀ (cs : List MCon), (∀ c ∈ cs, ConOk vars.length c) → ∀ (f : Nat) (acc : List MCon) (us r : List Tok), us.map ktOf = cs.flatMap (conK vars) → cs.length < f → (headT en r).text.data.toList ≠ [99, 111, 110] →
    consP en (vars.map MVar.name) f acc (us ++ r) = .ok (acc ++ cs) r
  | _, _, 0, _, _, _, _, hf, _ => by omega
  | [], _, f + 1, acc, us, r, hu, _, hr => by
    rw [map_nil_kt hu]
    show consP en (vars.map MVar.name) (f + 1) acc r = _
    unfold consP
    rw [if_neg (by rw [ba_list]; simpa using hr), List.append_nil]
  | c :: cs, h, f + 1, acc, us, r, hu, hf, hr => by
    rw [List.flatMap_cons] at hu
    obtain ⟨a, b, rfl, h1, h2⟩ := map_app_kt hu
    obtain ⟨u, q, e, h3, h4, _⟩ := map_cons_kt (show a.map ktOf = conT :: _ from h1)
    rw [List.append_assoc]
    unfold consP
    rw [if_pos (by rw [e]; show (u.text.toList == [99, 111, 110]) = true; rw [ba_list, h4]; rfl)]
    rw [reads_con en hn (h c (List.mem_cons_self ..)) a (b ++ r) h1]
    show consP en (vars.map MVar.name) f (acc ++ [c]) (b ++ r) = _
    rw [cons_reads en hn cs (fun y hy => h y (List.mem_cons_of_mem _ hy)) f (acc ++ [c]) b r h2 (by simp at hf; omega) hr]
    simp
/-- What Print writes of a right model. -/
def modB (m : Mod) : List UInt8 := m.vars.flatMap varLine ++ (m.cons.flatMap (conLine m.vars) ++ goalLine m)
def modK (m : Mod) : List KT := m.vars.flatMap varK ++ (m.cons.flatMap (conK m.vars) ++ goalK m)
structure ModOk (m : Mod) : Prop where
  vars : ∀ v ∈ m.vars, VarOk v
  names : NamesOk m.vars
  cons : ∀ c ∈ m.cons, ConOk m.vars.length c
  goal : GoalOk m
theorem mod_ok (m : Mod) (h : checkM m = 0) : ModOk m := by
  refine ⟨fun v hv => ?_, names_ok m h, fun c hc => ?_, ?_⟩
  · obtain ⟨i, hi⟩ := List.mem_iff_getElem?.1 hv
    have h1 := var_ok m h i v hi
    have h2 := (names_ok m h).1 v hv
    exact ⟨h2, by omega⟩
  · obtain ⟨i, hi⟩ := List.mem_iff_getElem?.1 hc
    exact conE_ok _ _ (con_ok m h i c hi)
  · have h1 := (checkM_vars m h).2.2.2.2.2
    unfold goalE at h1
    unfold GoalOk
    split at h1
    · split at h1
      · exact Or.inl ⟨by assumption, by assumption⟩
      · cases h1
    · split at h1
      · split at h1
        · rename_i h2 h3
          rw [isVar_iff] at h3
          exact Or.inr ⟨h2, h3⟩
        · cases h1
      · cases h1
theorem pc_mod {m : Mod} (h : ModOk m) : Pc0 (modB m) (modK m) :=
  (flat_pc varLine varK m.vars fun v hv => pc_var (h.vars v hv)).app ((flat_pc (conLine m.vars) (conK m.vars) m.cons fun c hc => pc_con h.names (h.cons c hc)).app (pc_goal h.names h.goal))
theorem bflat_len {α : Type} (g : α → List KT) (hg : ∀ x, g x ≠ []) : ∀ l : List α, l.length ≤ (l.flatMap g).length
  | [] => by simp
  | x :: l => by
    have := bflat_len g hg l
    have h1 : 0 < (g x).length := List.length_pos_iff.2 (hg x)
    rw [List.flatMap_cons, List.length_append, List.length_cons]; omega
theorem headT_cons (en : Int) (u : Tok) (r : List Tok) : headT en (u :: r) = u := rfl
theorem mod_reads (en : Int) {m : Mod} (h : ModOk m) (us : List Tok) (hu : us.map ktOf = modK m) : modelP en us = .ok m [] := by
  obtain ⟨a, b, rfl, h1, h2⟩ := map_app_kt hu
  obtain ⟨c, d, rfl, h3, h4⟩ := map_app_kt h2
  obtain ⟨u, q, ed, hk, ht, _⟩ := map_cons_kt (show d.map ktOf = solveT :: _ from h4)
  have hd1 : (headT en d).text.data.toList = [115, 111, 108, 118, 101] := by rw [ed, headT_cons, ht]; rfl
  have hcd : (headT en (c ++ d)).text.data.toList ≠ [118, 97, 114] := by
    cases hc : m.cons with
    | nil => rw [hc] at h3; rw [map_nil_kt h3]; show (headT en d).text.data.toList ≠ _; rw [hd1]; decide
    | cons x xs =>
      rw [hc, List.flatMap_cons] at h3
      obtain ⟨u2, q2, e2, _, ht2, _⟩ := map_cons_kt (show c.map ktOf = conT :: _ from h3)
      rw [e2, List.cons_append, headT_cons, ht2]; decide
  unfold modelP
  have l1 : m.vars.length ≤ a.length := by
    have := congrArg List.length h1
    rw [List.length_map] at this
    rw [this]; exact bflat_len varK (fun x => by simp [varK]) _
  have l2 : m.cons.length ≤ c.length := by
    have := congrArg List.length h3
    rw [List.length_map] at this
    rw [this]; exact bflat_len _ (fun x => by simp [conK]) _
  rw [vars_reads en m.vars h.vars _ [] a (c ++ d) h1 (by rw [List.length_append]; omega) hcd]
  show (consP en (m.vars.map MVar.name) ((c ++ d).length + 1) [] (c ++ d)).bind _ = _
  rw [cons_reads en h.names m.cons h.cons _ [] c d h3 (by rw [List.length_append]; omega) (by rw [hd1]; decide)]
  show (goalP en (m.vars.map MVar.name) d).bind _ = _
  have := reads_goal en h.names h.goal d [] h4
  rw [List.append_nil] at this
  rw [this]
  rfl
/-- WHAT IS PRINTED IS PARSED AS IT WAS, if it is not too long. -/
theorem print_parse (m : Mod) (h : checkM m = 0) (hl : (modB m).length ≤ 4000) : parseA ⟨(modB m).toArray⟩ = (m, 0, 0) := by
  have hm := mod_ok m h
  have hsp : Spells (modB m) (modK m) := by
    have := pc_mod hm [] [] Spells.nil
    rwa [List.append_nil, List.append_nil] at this
  have hsz : (⟨(modB m).toArray⟩ : ByteArray).size = (modB m).length := by rw [← len_size]
  obtain ⟨us, hu, hs⟩ := spells_scan ⟨(modB m).toArray⟩ hsp ((⟨(modB m).toArray⟩ : ByteArray).size + 1) 0 [] (by simp) (by omega) (by omega)
  have hsc : scanOf ⟨(modB m).toArray⟩ = (us, 0, 0) := by
    unfold scanOf
    rw [if_neg (by rw [hsz]; omega), hs]; rfl
  have hr : readA (⟨(modB m).toArray⟩ : ByteArray).size us = (m, 0, 0) := by
    unfold readA
    rw [mod_reads _ hm us hu]
  unfold parseA
  rw [hsc]
  simp only [hr, h, if_true]
/-- What is parsed is right, or nothing. -/
theorem parse_right (s : ByteArray) : ((parseA s).2.2 = 0 → checkM (parseA s).1 = 0) ∧ ((parseA s).2.2 ≠ 0 → (parseA s).1 = noMod) := by
  unfold parseA
  split
  · split
    · split
      · rename_i h; exact ⟨fun _ => h, fun h' => absurd rfl h'⟩
      · rename_i h; exact ⟨fun h' => absurd h' h, fun _ => rfl⟩
    · rename_i h; exact ⟨fun h' => absurd h' h, fun _ => rfl⟩
  · rename_i h; exact ⟨fun h' => absurd h' h, fun _ => rfl⟩
end Go.Proofs.YtdjbejlbmaiocagGreatDoor
/-
  PLAIN: how long what is printed is.
-/
namespace Go.Proofs.YtdjbejlbmaiocagGreatDoor
open Go
/-- How long things are. -/
theorem tail_len (xs : List ByteArray) (sep : List UInt8) (s : Nat) (h : ∀ x ∈ xs, x.size ≤ s) : (Lib.joinTail sep (xs.map (·.data.toList))).length ≤ xs.length * (s + sep.length) := by
  induction xs with
  | nil => simp [Lib.joinTail]
  | cons x r ih =>
    have h1 := ih fun y hy => h y (List.mem_cons_of_mem _ hy)
    have h2 := h x (List.mem_cons_self ..)
    have e : Lib.joinTail sep ((x :: r).map (·.data.toList)) = sep ++ x.data.toList ++ Lib.joinTail sep (r.map (·.data.toList)) := by simp [Lib.joinTail]
    rw [e, List.length_append, List.length_append, len_size, List.length_cons, Nat.succ_mul]
    omega
theorem join_len (xs : List ByteArray) (sep : List UInt8) (s : Nat) (h : ∀ x ∈ xs, x.size ≤ s) : (joinB xs sep).length ≤ xs.length * (s + sep.length) := by
  unfold joinB
  cases xs with
  | nil => simp [Lib.join_nil]
  | cons x r =>
    have h1 := tail_len r sep s fun y hy => h y (List.mem_cons_of_mem _ hy)
    have h2 := h x (List.mem_cons_self ..)
    rw [List.map_cons, Lib.join_cons, List.length_append, len_size, List.length_cons, Nat.succ_mul]
    omega
theorem brack_size (xs : List ByteArray) (s k : Nat) (h : ∀ x ∈ xs, x.size ≤ s) (hk : xs.length ≤ k) : (brackB xs).size ≤ k * (s + 2) + 2 := by
  rw [← len_size, brack_bytes]
  have h1 : (joinB xs [44, 32]).length ≤ xs.length * (s + 2) := join_len xs [44, 32] s h
  have h2 : xs.length * (s + 2) ≤ k * (s + 2) := Nat.mul_le_mul_right _ hk
  simp only [List.length_cons, List.length_append, List.length_nil]
  omega
theorem num_size (n : Int) (h : -9999 ≤ n ∧ n ≤ 9999) : (numB n).size ≤ 5 := by
  have e : (numB n).data.toList = Lib.itoa n := by simp [numB]
  rw [← len_size, e]
  unfold Lib.itoa
  split
  · have := dec_len 3 n.natAbs (by omega)
    simp; omega
  · have := dec_len 3 n.toNat (by omega)
    omega
theorem op_size (op : Int) (h : 1 ≤ op ∧ op ≤ 4) : (opWB op).size ≤ 2 := by
  have : op = 1 ∨ op = 2 ∨ op = 3 ∨ op = 4 := by omega
  rcases this with rfl | rfl | rfl | rfl <;> decide
theorem con_size (k : Int) (h : 1 ≤ k ∧ k ≤ 10) : (conWB k).size ≤ 12 := by
  have : k = 1 ∨ k = 2 ∨ k = 3 ∨ k = 4 ∨ k = 5 ∨ k = 6 ∨ k = 7 ∨ k = 8 ∨ k = 9 ∨ k = 10 := by omega
  rcases this with rfl | rfl | rfl | rfl | rfl | rfl | rfl | rfl | rfl | rfl <;> decide
/-- No name is long. -/
def Short (vars : List MVar) : Prop := ∀ x ∈ vars, x.name.size ≤ 12
theorem short_name {vars : List MVar} (h : Short vars) (i : Int) : (nameOf vars i).size ≤ 12 := by
  unfold nameOf
  rw [List.getD_eq_getElem?_getD]
  cases hv : vars[i.toNat]? with
  | none => decide
  | some v => exact h v (List.mem_of_getElem? hv)
theorem tok1_size {s : ByteArray} (h : isTok 1 s = true) : s.size ≤ 12 := by
  have := ((isTok_iff _ _).1 h).2.2.2.2.2
  unfold errOf at this
  rw [if_pos rfl] at this
  split at this
  · cases this
  · omega
theorem names_short {vars : List MVar} (h : NamesOk vars) : Short vars := by
  intro v hv
  have := h.1 v hv
  unfold isNameB at this
  rw [Bool.and_eq_true] at this
  exact tok1_size this.1
theorem lit_size {vars : List MVar} (h : Short vars) {t : MLit} (ht : LitOk vars t) : (plitB vars t).size ≤ 21 := by
  rw [← len_size, lit_bytes]
  have h1 := short_name h t.var
  have h2 := op_size t.op ht.2.1
  have h3 := num_size t.n (by have := ht.2.2; omega)
  simp only [List.length_append, List.length_cons, len_size]
  omega
theorem nums_size (l : List Int) (k : Nat) (hk : l.length ≤ k) (h : ∀ x ∈ l, -1000 ≤ x ∧ x ≤ 1000) : (numsB l).size ≤ k * 7 + 2 := brack_size _ 5 k (fun x hx => by
  obtain ⟨n, hn, rfl⟩ := List.mem_map.1 hx
  exact num_size n (by have := h n hn; omega)) (by simpa using hk)
theorem nameL_size {vars : List MVar} (h : Short vars) (l : List Int) (k : Nat) (hk : l.length ≤ k) : (brackB (l.map (nameOf vars))).size ≤ k * 14 + 2 := brack_size _ 12 k (fun x hx => by
  obtain ⟨n, hn, rfl⟩ := List.mem_map.1 hx
  exact short_name h n) (by simpa using hk)
theorem many_no {c : MCon} (h : manyB c = false) : c.vars.length ≤ 4 ∧ c.lits.length ≤ 4 ∧ c.consts.length ≤ 8 ∧ c.rows.length ≤ 20 := by
  simp only [manyB, Bool.or_eq_false_iff, decide_eq_false_iff_not] at h
  omega
theorem row_len {n : Nat} {c : MCon} (hc : ConOk n c) (hk : c.kind = 6) : ∀ r ∈ c.rows, r.length ≤ 4 := by
  have hf := hc.form
  unfold formB at hf
  rw [hk] at hf
  simp at hf
  intro r hr
  have := hf.2.2.2 r hr
  have := many_no hc.many
  omega
theorem rows_size {n : Nat} {c : MCon} (hc : ConOk n c) (hk : c.kind = 6) : (brackB (c.rows.map numsB)).size ≤ 700 := by
  have := brack_size (c.rows.map numsB) 30 20 (fun x hx => by
    obtain ⟨r, hr, rfl⟩ := List.mem_map.1 hx
    exact nums_size r 4 (row_len hc hk r hr) (hc.rows r hr)) (by simpa using (many_no hc.many).2.2.2)
  omega
theorem litL_size {vars : List MVar} (h : Short vars) {c : MCon} (hc : ConOk vars.length c) : (brackB (c.lits.map (plitB vars))).size ≤ 100 := by
  have := brack_size (c.lits.map (plitB vars)) 21 4 (fun x hx => by
    obtain ⟨t, ht, rfl⟩ := List.mem_map.1 hx
    exact lit_size h (hc.lits t ht)) (by simpa using (many_no hc.many).2.1)
  omega
theorem parts_size {vars : List MVar} (h : Short vars) {c : MCon} (hc : ConOk vars.length c) : (partsB vars c).length ≤ 3 ∧ ∀ x ∈ partsB vars c, x.size ≤ 1000 := by
  have hm := many_no hc.many
  have h1 := nums_size c.consts 8 hm.2.2.1 hc.consts
  have h2 := nameL_size h c.vars 4 hm.1
  have h3 := num_size c.n (by have := hc.num; omega)
  have h4 := litL_size h hc
  have hn := short_name h
  obtain ⟨f5, f7, f8, f10⟩ := form_len c hc.form
  unfold partsB
  split
  · simp only [List.forall_mem_cons, List.not_mem_nil, false_imp_iff, implies_true, and_true, List.length_cons, List.length_nil]
    omega
  split
  · simp only [List.forall_mem_cons, List.not_mem_nil, false_imp_iff, implies_true, and_true, List.length_cons, List.length_nil]
    omega
  split
  · simp only [List.forall_mem_cons, List.not_mem_nil, false_imp_iff, implies_true, and_true, List.length_cons, List.length_nil]
    have a1 := hn (c.vars.getD 0 0)
    have a2 := hn (c.vars.getD 1 0)
    omega
  split
  · rename_i hk
    have := rows_size hc hk
    simp only [List.forall_mem_cons, List.not_mem_nil, false_imp_iff, implies_true, and_true, List.length_cons, List.length_nil]
    omega
  split
  · simp only [List.forall_mem_cons, List.not_mem_nil, false_imp_iff, implies_true, and_true, List.length_cons, List.length_nil]
    have a1 := hn (c.vars.getD 0 0)
    have a2 := hn (c.vars.getD 1 0)
    have a3 := hn (c.vars.getD 2 0)
    omega
  split
  · simp only [List.forall_mem_cons, List.not_mem_nil, false_imp_iff, implies_true, and_true, List.length_cons, List.length_nil]
    have a1 := hn (c.vars.getD 0 0)
    have a2 := nameL_size h (c.vars.drop 1) 4 (by simp; omega)
    omega
  split
  · simp only [List.forall_mem_cons, List.not_mem_nil, false_imp_iff, implies_true, and_true, List.length_cons, List.length_nil]
    omega
  split
  · rename_i hk
    have := f10 hk
    simp only [List.forall_mem_cons, List.not_mem_nil, false_imp_iff, implies_true, and_true, List.length_cons, List.length_nil]
    have a1 := hn (c.vars.getD 0 0)
    have a2 := lit_size h (hc.lits (c.lits.getD 0 ⟨0, 0, 0⟩) (by rw [List.getD_eq_getElem?_getD, List.getElem?_eq_getElem (show 0 < c.lits.length by omega)]; exact List.getElem_mem _))
    omega
  · exact ⟨by decide, fun x hx => by cases hx⟩
theorem conLine_len {vars : List MVar} (h : Short vars) {c : MCon} (hc : ConOk vars.length c) : (joinB ([conW, conWB c.kind] ++ partsB vars c) [32]).length ≤ 10000 ∧ (conLine vars c).length ≤ 10002 := by
  have h1 := parts_size h hc
  have h2 := join_len ([conW, conWB c.kind] ++ partsB vars c) [32] 1000 (by
    simp only [List.cons_append, List.nil_append, List.forall_mem_cons]
    exact ⟨by decide, by have := con_size c.kind hc.kind; omega, h1.2⟩)
  have h3 : ([conW, conWB c.kind] ++ partsB vars c).length ≤ 5 := by simp; omega
  have h4 : ([conW, conWB c.kind] ++ partsB vars c).length * (1000 + 1) ≤ 5 * (1000 + 1) := Nat.mul_le_mul_right _ h3
  have h5 : (joinB ([conW, conWB c.kind] ++ partsB vars c) [32]).length ≤ 10000 := by
    simp only [List.length_singleton] at h2
    omega
  refine ⟨h5, ?_⟩
  unfold conLine lineL
  rw [List.length_append]
  simp only [List.length_cons, List.length_nil]
  omega
theorem varLine_len {v : MVar} (h : VarOk v) : (joinB [varW, v.name ++ colW, numB v.lo ++ dotsW ++ numB v.hi] [32]).length ≤ 10000 ∧ (varLine v).length ≤ 10002 ∧ (numB v.lo).size ≤ 5 ∧ (numB v.hi).size ≤ 5 ∧ v.name.size ≤ 12 := by
  have h1 : v.name.size ≤ 12 := by have := h.1; unfold isNameB at this; rw [Bool.and_eq_true] at this; exact tok1_size this.1
  have h2 := num_size v.lo (by have := h.2; omega)
  have h3 := num_size v.hi (by have := h.2; omega)
  have h4 := join_len [varW, v.name ++ colW, numB v.lo ++ dotsW ++ numB v.hi] [32] 100 (by
    simp only [List.forall_mem_cons, List.not_mem_nil, false_imp_iff, implies_true, and_true, ByteArray.size_append]
    have e1 : colW.size = 1 := rfl
    have e2 : dotsW.size = 2 := rfl
    have e3 : varW.size = 3 := rfl
    omega)
  simp only [List.length_cons, List.length_nil] at h4
  refine ⟨by omega, ?_, h2, h3, h1⟩
  unfold varLine lineL
  rw [List.length_append]
  simp only [List.length_cons, List.length_nil]
  omega
theorem goalLine_len {m : Mod} (h : Short m.vars) (hg : GoalOk m) : (joinB [solveW, goalWB m.goal] [32]).length ≤ 10000 ∧ (joinB [solveW, goalWB m.goal, nameOf m.vars m.var] [32]).length ≤ 10000 ∧ (goalLine m).length ≤ 10002 := by
  have h1 := short_name h m.var
  have hw : (goalWB m.goal).size ≤ 12 := by
    have : m.goal = 0 ∨ m.goal = 1 ∨ m.goal = 2 := by unfold GoalOk at hg; omega
    rcases this with h | h | h <;> rw [h] <;> decide
  have hs : solveW.size = 5 := rfl
  have h4 := join_len [solveW, goalWB m.goal] [32] 100 (by
    simp only [List.forall_mem_cons, List.not_mem_nil, false_imp_iff, implies_true, and_true]
    omega)
  have h5 := join_len [solveW, goalWB m.goal, nameOf m.vars m.var] [32] 100 (by
    simp only [List.forall_mem_cons, List.not_mem_nil, false_imp_iff, implies_true, and_true]
    omega)
  simp only [List.length_cons, List.length_nil] at h4 h5
  refine ⟨by omega, by omega, ?_⟩
  unfold goalLine lineL
  split
  · rw [List.length_append]; simp only [List.length_cons, List.length_nil]; omega
  · rw [List.length_append]; simp only [List.length_cons, List.length_nil]; omega
end Go.Proofs.YtdjbejlbmaiocagGreatDoor
