/-
  PART 21 of what the proof leans on (PfB, PfC, PrA, RdC).
-/
import Derived.Test.YtdjbejlbmaiocagGreatDoorPartT
import Derived.Lib.AppendIntMem
/-
  WALK: the reference's ParseOf.
-/
namespace Go.Proofs.YtdjbejlbmaiocagGreatDoor
open Go.RowKit

/-- What the reference's ParseOf answers. -/
def parseR (s : ByteArray) : Mod × Int × Int :=
  if (scanOf s).2.2 = 0 then
    if (modelR s.size (scanOf s).1 ⟨0, 0⟩).2.er = 0 then
      if rcheckM (modelR s.size (scanOf s).1 ⟨0, 0⟩).1 = 0 then ((modelR s.size (scanOf s).1 ⟨0, 0⟩).1, 0, 0) else (noMod, 0, rcheckM (modelR s.size (scanOf s).1 ⟨0, 0⟩).1)
    else (noMod, (headT s.size ((scanOf s).1.drop (modelR s.size (scanOf s).1 ⟨0, 0⟩).2.k)).place, (modelR s.size (scanOf s).1 ⟨0, 0⟩).2.er)
  else (noMod, (scanOf s).2.1, (scanOf s).2.2)
theorem parser_ok {s : ByteArray} {ts : List Tok} {a : Nat} {m : Mod} {p : RP} (hs : scanOf s = (ts, a, 0)) (hr : modelR s.size ts ⟨0, 0⟩ = (m, p)) (hp : p.er = 0) (hc : rcheckM m = 0) : parseR s = (m, 0, 0) := by
  unfold parseR; simp [hs, hr, hp, hc]
theorem parser_check {s : ByteArray} {ts : List Tok} {a : Nat} {m : Mod} {p : RP} (hs : scanOf s = (ts, a, 0)) (hr : modelR s.size ts ⟨0, 0⟩ = (m, p)) (hp : p.er = 0) (hc : ¬ rcheckM m = 0) : parseR s = (noMod, 0, rcheckM m) := by
  unfold parseR; simp [hs, hr, hp, hc]
theorem parser_read {s : ByteArray} {ts : List Tok} {a : Nat} {m : Mod} {p : RP} (hs : scanOf s = (ts, a, 0)) (hr : modelR s.size ts ⟨0, 0⟩ = (m, p)) (hp : ¬ p.er = 0) : parseR s = (noMod, (headT s.size (ts.drop p.k)).place, p.er) := by
  unfold parseR; simp [hs, hr, hp]
theorem parser_scan {s : ByteArray} {ts : List Tok} {a : Nat} {e : Int} (hs : scanOf s = (ts, a, e)) (he : ¬ e = 0) : parseR s = (noMod, (a : Int), e) := by
  unfold parseR; simp [hs, he]
theorem tx_er (en : Int) (T : List Tok) (p : RP) (wd : List UInt8) (hw : (ByteArray.empty.toList == wd) = false) (h : ((txR en T p).toList == wd) = true) : p.er = 0 := by
  apply Classical.byContradiction
  intro he
  rw [tx_still en T p he, hw] at h
  cases h
theorem newname_k (en : Int) (T : List Tok) : Onward (newNameR en T) := fun p => by
  unfold newNameR
  dsimp only
  split
  · show p.k ≤ p.k + 1; omega
  · rw [wrong_k]; exact Nat.le_refl _
theorem newvar_k (en : Int) (T : List Tok) (p : RP) (h : ((txR en T p).toList == [118, 97, 114]) = true) : p.k + 1 ≤ (newVarR en T p).2.k := by
  have he := tx_er en T p _ (by decide +kernel) h
  have h1 : (needR en T varW p).k = p.k + 1 := by
    unfold needR
    rw [if_pos he, if_pos (by rw [show varW.toList = [118, 97, 114] by unfold varW; rw [ByteArray.toList_eq]]; exact h)]
    rfl
  rw [← h1]
  unfold newVarR
  exact Nat.le_trans (newname_k en T _) (Nat.le_trans (need_k en T _ _) (Nat.le_trans (k_k en T _) (Nat.le_trans (need_k en T _ _) (Nat.le_trans (k_k en T _) (need_k en T _ _)))))
theorem row_go {α : Type} (en : Int) (T : List Tok) (wd : List UInt8) (f : RP → α × RP) (n : Nat) (acc : List α) (p : RP) (h : ((txR en T p).toList == wd) = true) : rowR en T wd f (n + 1) acc p = rowR en T wd f n (acc ++ [(f p).1]) (f p).2 := by
  conv => lhs; unfold rowR
  rw [if_pos h]
theorem row_end {α : Type} (en : Int) (T : List Tok) (wd : List UInt8) (f : RP → α × RP) (n : Nat) (acc : List α) (p : RP) (h : ((txR en T p).toList == wd) = false) : rowR en T wd f n acc p = (acc, p) := by
  cases n with
  | zero => rfl
  | succ n => unfold rowR; rw [if_neg (by rw [h]; simp)]
theorem tx_size (en : Int) (T : List Tok) (hT : ∀ t ∈ T, TokOk t) (p : RP) : (txR en T p).size ≤ 4000 := by
  unfold txR
  split
  · by_cases hk : p.k < T.length
    · exact (hT _ (head_mem en T p.k hk)).1
    · rw [head_none en T p.k hk]; exact Nat.zero_le _
  · exact Nat.zero_le _
theorem name_in (en : Int) (T : List Tok) (p : RP) (h : isNameB (txR en T p) = true) : p.k + 1 ≤ T.length ∧ p.er = 0 := by
  have he : p.er = 0 := by
    apply Classical.byContradiction
    intro he
    rw [tx_still en T p he, namex_empty] at h
    cases h
  refine ⟨?_, he⟩
  have := head_in en T p.k (fun h0 => by rw [tx_head en T p he, h0, namex_empty] at h; cases h)
  omega

theorem LCr.setR {B : Nat} {w : World} {v : Value} {acc : List MCon} (h : LCr B w v acc) {C : Nat} {cs : Array Value} (hC : w.heap[C]? = some (.cells cs 99)) (i : Nat) (u : Value) : LCr B (w.setCell ⟨C, i, Option.none⟩ u) v acc := by
  obtain ⟨cells, h1, h2⟩ := h
  refine ⟨cells, own_set h1 hC (by decide) i u, fun j r hr => ?_⟩
  obtain ⟨vv, vc, vr, vl, hc, ho⟩ := h2 j r hr
  exact ⟨vv, vc, vr, vl, hc, ho.set2 hC (by decide) (by decide) (by decide) i u⟩
theorem conr_k (en : Int) (T : List Tok) (nm : List ByteArray) : Onward (conR en T nm) := fun p => by
  have hw := word_k en T p conWL.tail 0
  refine Nat.le_trans hw ?_
  unfold conR
  generalize (wordR en T p conWL.tail 0).2 = p1
  generalize 1 + (wordR en T p conWL.tail 0).1 = k
  have hks := list_k (en := en) (T := T) (k_k en T)
  have hvs := list_k (en := en) (T := T) (v_k en T nm)
  unfold bodyR
  split
  · exact Nat.le_trans (hks p1) (Nat.le_trans (hvs _) (k_k en T _))
  split
  · exact hvs p1
  split
  · exact Nat.le_trans (hks p1) (Nat.le_trans (v_k en T nm _) (v_k en T nm _))
  split
  · exact Nat.le_trans (hvs p1) (list_k hks _)
  split
  · exact Nat.le_trans (v_k en T nm p1) (Nat.le_trans (v_k en T nm _) (v_k en T nm _))
  split
  · exact Nat.le_trans (v_k en T nm p1) (hvs _)
  split
  · exact list_k (lit_k en T nm) p1
  split
  · exact Nat.le_trans (v_k en T nm p1) (lit_k en T nm _)
  · exact Nat.le_refl _
theorem constep_k (en : Int) (T : List Tok) (nm : List ByteArray) (p : RP) (h : ((txR en T p).toList == [99, 111, 110]) = true) : p.k + 1 ≤ (conStepR en T nm p).2.k := by
  have he := tx_er en T p _ (by decide +kernel) h
  have h1 : (needR en T conW p).k = p.k + 1 := by
    unfold needR
    rw [if_pos he, if_pos (by rw [show conW.toList = [99, 111, 110] by unfold conW; rw [ByteArray.toList_eq]]; exact h)]
    rfl
  rw [← h1]
  unfold conStepR
  exact Nat.le_trans (conr_k en T nm _) (need_k en T _ _)
theorem LCr.mono {B B' : Nat} {w : World} {v : Value} {acc : List MCon} (h : LCr B w v acc) (hb : B' ≤ B) : LCr B' w v acc := by
  obtain ⟨cells, h2, h3⟩ := h
  refine ⟨cells, own_mono9 h2 hb, fun i c hc => ?_⟩
  obtain ⟨vv, vc, vr, vl, hcl, ho⟩ := h3 i c hc
  exact ⟨vv, vc, vr, vl, hcl, ho.mono hb⟩
theorem below_fr {B R : Nat} {w W w' : World} (h : Below B w W) (hB : B ≤ W.heap.size) (hf : Fr (XR9 R) W w') (hR : B ≤ R) : Below B w w' :=
  ⟨hf.os.trans h.os, hf.tape.trans h.tape, hf.output.trans h.output, Nat.le_trans h.size hf.size, fun k hk => (hf.block k (by omega) (by show ¬ k = R; omega)).trans (h.block k hk)⟩
theorem solid_goals : ∀ s ∈ goalWL, solid s := by
  intro s hs
  simp only [goalWL, List.mem_cons, List.not_mem_nil, or_false] at hs
  rcases hs with rfl | rfl | rfl <;> (unfold solid; rw [ByteArray.toList_eq, ByteArray.toList_eq]; rfl)

set_option maxHeartbeats 4000000 in
set_option maxRecDepth 100000 in
theorem rparse_any (s : ByteArray) (hs : s.size ≤ maxLen) (w : World) :
    Calls Tryz.prog 22 #[.string s] w fun e w' => ∃ vs cs, e = .returned (.tuple #[modV vs cs (parseR s).1, .int .i64 (parseR s).2.1, .int .i64 (parseR s).2.2]) ∧ ModR w.heap.size w' vs cs (parseR s).1 ∧ Below w.heap.size w w' := by
  obtain ⟨m0, x0, e0, hA⟩ : ∃ m0 x0 e0, parseR s = (m0, x0, e0) := ⟨_, _, _, rfl⟩
  have HA : Hid (parseR s = (m0, x0, e0)) := hA
  rw [hA]
  simp only
  clear hA
  obtain ⟨ts, at1, e1, hsc⟩ : ∃ ts at1 e1, scanOf s = (ts, at1, e1) := ⟨_, _, _, rfl⟩
  have HSC : Hid (scanOf s = (ts, at1, e1)) := hsc
  have HTK : Hid ((∀ t ∈ ts, TokOk t) ∧ ts.length ≤ 4000) := by have h := scan_toks s; rw [hsc] at h; exact h
  have HSO : Hid (Solid ts) := by have h := scan_solid s; rw [hsc] at h; exact h
  have HSS : Hid (s.size ≤ maxLen) := hs
  obtain ⟨iV, hiV, hzV0, hzV1, hzV2⟩ := info_parts Tryz.infoVar5
  obtain ⟨iC, hiC, hzC0, hzC1, hzC2⟩ := info_parts Tryz.infoCon5
  clear hsc
  unfold maxLen at hs
  go_enter Tryz.func22, Tryz.ntmps22
  go_wp2_with fail
  have HBA := below_alloc w (.cells #[.slice none 0 0, .slice none 0 0, .int .i64 0, .int .i64 0] 25)
  have HQ0 : (w.alloc (.cells #[.slice none 0 0, .slice none 0 0, .int .i64 0, .int .i64 0] 25)).heap[w.heap.size]? = some (.cells #[.slice none 0 0, .slice none 0 0, .int .i64 0, .int .i64 0] 25) := heap_alloc_new _ _
  refine (rscan_all s HSS.out _).mono ?_
  rw [HSC.out]
  rintro e w1 ⟨v1, rfl, hown1, hb1⟩
  have HO1 : Hid (TArg w1.heap.size w1 v1 ts) := targ_own hown1 HTK.out.2 HTK.out.1
  have HB1 : Hid (Below w.heap.size w w1) := HBA.trans (hb1.mono (by simp))
  have HQ1 : Hid (w1.heap[w.heap.size]? = some (.cells #[.slice none 0 0, .slice none 0 0, .int .i64 0, .int .i64 0] 25)) := (hb1.block _ (by simp)).trans HQ0
  obtain ⟨av, cv, hv1⟩ := own_form hown1
  subst hv1
  clear hown1 hb1 HBA HQ0
  by_cases he1 : e1 = 0
  · subst he1
    have HSR : Hid (RSt ⟨w1.heap.size, w1.heap.size, w1.heap.size, s.size, ts, [], .slice none 0 0, .slice none 0 0, 0, 0⟩ ⟨0, 0⟩ (w1.alloc (.cells #[.slice av ts.length cv, .int .i64 0, .int .i64 s.size, .int .i64 0, .slice none 0 0, .slice none 0 0, .int .i64 0, .int .i64 0] 99))) := by
      refine ⟨Nat.le_refl _, by simp, by simp, Nat.zero_le _, fun t ht hd => (HSO.out t ht).2.2.2 hd, ⟨none, 0, rfl, ⟨Nat.le_refl _, Nat.zero_le _⟩, fun i t ht => by simp at ht⟩, _, heap_alloc_new _ _, ?_⟩
      exact HO1.out.old fun q hq => (below_alloc _ _).cell hq
    have HSZ : Hid ((w1.alloc (.cells #[.slice av ts.length cv, .int .i64 0, .int .i64 s.size, .int .i64 0, .slice none 0 0, .slice none 0 0, .int .i64 0, .int .i64 0] 99)).heap.size = w1.heap.size + 1) := by show _ = _; simp
    have HB2 : Hid (Below w1.heap.size w1 (w1.alloc (.cells #[.slice av ts.length cv, .int .i64 0, .int .i64 s.size, .int .i64 0, .slice none 0 0, .slice none 0 0, .int .i64 0, .int .i64 0] 99))) := below_alloc _ _
    obtain ⟨W2, hW2⟩ : ∃ W2, w1.alloc (.cells #[.slice av ts.length cv, .int .i64 0, .int .i64 s.size, .int .i64 0, .slice none 0 0, .slice none 0 0, .int .i64 0, .int .i64 0] 99) = W2 := ⟨_, rfl⟩
    rw [hW2] at HSR HSZ HB2
    have HW2 : Hid (w1.alloc (.cells #[.slice av ts.length cv, .int .i64 0, .int .i64 s.size, .int .i64 0, .slice none 0 0, .slice none 0 0, .int .i64 0, .int .i64 0] 99) = W2) := hW2
    clear hW2
    obtain ⟨V, hV⟩ : ∃ V, rowR s.size ts [118, 97, 114] (newVarR s.size ts) (ts.length + 2) [] ⟨0, 0⟩ = V := ⟨_, rfl⟩
    have HV : Hid (rowR s.size ts [118, 97, 114] (newVarR s.size ts) (ts.length + 2) [] ⟨0, 0⟩ = V) := hV
    clear hV
    obtain ⟨R, hRR⟩ : ∃ R, w1.heap.size = R := ⟨_, rfl⟩
    have HRR : Hid (w1.heap.size = R) := hRR
    rw [hRR] at HSR HSZ
    clear hRR
    have HVX : Hid ((⟨#[118, 97, 114]⟩ : ByteArray).toList = [118, 97, 114]) := by show _ = _; simp [go_sem]
    have HVY : Hid ((⟨#[99, 111, 110]⟩ : ByteArray).toList = [99, 111, 110]) := by show _ = _; simp [go_sem]
    go_wp2_with fail
    rw [HW2.out, HRR.out]
    clear HW2
    have hT4 : ts.length ≤ 4000 := HTK.out.2
    go_loopw [9] (fun o wr => ∃ (f : Nat) (acc : List MVar) (p : RP), Hid (rowR s.size ts [118, 97, 114] (newVarR s.size ts) f acc p = V) ∧ Hid (RSt ⟨R, R, R, s.size, ts, [], .slice none 0 0, .slice none 0 0, 0, 0⟩ p wr) ∧ Hid (Fr (XR9 R) W2 wr) ∧ Hid (wr.ownsRow W2.heap.size 71 3 o acc.length (acc.flatMap varC)) ∧ Hid (∀ x ∈ acc, x.name.size ≤ maxLen) ∧ acc.length + f = ts.length + 2 ∧ ts.length + 2 ≤ f + p.k) (fun o _ => ts.length + 3 - lenOf o)
    case atStart => exact ⟨ts.length + 2, [], ⟨0, 0⟩, HV, HSR, Fr.refl _ _, World.ownsRow_nil _ _ _ _, fun x hx => by simp at hx, by simp, by simp⟩
    case round =>
      clear HSR
      obtain ⟨f, acc, p, HQ, HS, HF, HO, HNM, haf, hfk⟩ := hrel
      obtain ⟨al, cl, hv⟩ := own_form HO.out
      subst hv
      have HKT := HS.out.kT
      dsimp only at HKT
      go_wp2_with fail
      refine (rtext_any _ p _ HS.out).mono ?_
      rintro e w3 ⟨rfl, nd, hw3⟩
      have hd3 := drew9_below hw3
      have HS3 : Hid (RSt ⟨R, R, R, s.size, ts, [], .slice none 0 0, .slice none 0 0, 0, 0⟩ p w3) := HS.out.below hd3
      have HF3 : Hid (Fr (XR9 R) W2 w3) := HF.out.trans (Fr.below hd3)
      have HO3 : Hid (w3.ownsRow W2.heap.size 71 3 (.slice al acc.length cl) acc.length (acc.flatMap varC)) := own_below HO.out hd3
      clear hd3 hw3 HS HF HO
      dsimp only
      cases hq : ((txR s.size ts p).toList == [118, 97, 114])
      · have HV1 : Hid (V = (acc, p)) := HQ.out.symm.trans (row_end _ _ _ _ _ _ _ hq)
        have k4 : w3.cell? ⟨R, 4, none⟩ = some (.slice none 0 0) := by obtain ⟨v, hb, _⟩ := HS3.out.blk; exact blk9 hb 4 _ rfl
        have z4 : w3.frozen? ⟨R, 4, none⟩ = false := by obtain ⟨v, hb, _⟩ := HS3.out.blk; exact frz9 hb 4
        have hS4 := HS3.out.setVv HO3.out
        have hF4 : Fr (XR9 R) W2 (w3.setCell ⟨R, 4, none⟩ (.slice al acc.length cl)) := HF3.out.setX (p := ⟨R, 4, none⟩) rfl _
        have hO4 : (w3.setCell ⟨R, 4, none⟩ (.slice al acc.length cl)).ownsRow W2.heap.size 71 3 (.slice al acc.length cl) acc.length (acc.flatMap varC) := by obtain ⟨v, hb, _⟩ := HS3.out.blk; exact own_set HO3.out hb (by decide) 4 _
        have hNB : (w3.setCell ⟨R, 4, none⟩ (.slice al acc.length cl)).heap.size = w3.heap.size := by simp
        obtain ⟨NB, hNBe⟩ : ∃ NB, w3.heap.size = NB := ⟨_, rfl⟩
        obtain ⟨names, hnames⟩ : ∃ names, acc.map MVar.name = names := ⟨_, rfl⟩
        have HNMS : Hid (acc.map MVar.name = names) := hnames
        rw [hNBe] at hNB
        rw [hnames, hNBe] at hS4
        obtain ⟨W3, hW3⟩ : ∃ W3, w3.setCell ⟨R, 4, none⟩ (.slice al acc.length cl) = W3 := ⟨_, rfl⟩
        rw [hW3] at hS4 hF4 hO4 hNB
        have HW3 : Hid (w3.setCell ⟨R, 4, none⟩ (.slice al acc.length cl) = W3) := hW3
        have HS4 : Hid (RSt ⟨R, NB, R, s.size, ts, names, .slice al acc.length cl, .slice none 0 0, 0, 0⟩ p W3) := hS4
        have HF4 : Hid (Fr (XR9 R) W2 W3) := hF4
        have HO4 : Hid (W3.ownsRow W2.heap.size 71 3 (.slice al acc.length cl) acc.length (acc.flatMap varC)) := hO4
        have HNB : Hid (W3.heap.size = NB) := hNB
        have HRW : Hid (R < W2.heap.size) := by show _ < _; rw [HSZ.out]; omega
        have HRN : Hid (R < NB) := by have h1 := hF4.size; have h2 := HRW.out; rw [hNB] at h1; show _ < _; omega
        clear HQ HS3 HF3 HO3 hS4 hF4 hO4 hNB hNBe hnames hW3 haf hfk
        go_wp2_with fail
        rw [HW3.out]
        clear HW3 k4 z4 hq
        obtain ⟨K, hK⟩ : ∃ K, rowR s.size ts [99, 111, 110] (conStepR s.size ts names) (ts.length + 2) [] p = K := ⟨_, rfl⟩
        have HK : Hid (rowR s.size ts [99, 111, 110] (conStepR s.size ts names) (ts.length + 2) [] p = K) := hK
        clear hK
        have HMR : Hid (modelR s.size ts ⟨0, 0⟩ = (⟨acc, K.1, (goalR s.size ts names K.2).1.1, (goalR s.size ts names K.2).1.2⟩, if (goalR s.size ts names K.2).2.k < ts.length then wrongR 1 (goalR s.size ts names K.2).2 else (goalR s.size ts names K.2).2)) := by
          show _ = _
          unfold modelR
          rw [HV.out, HV1.out]
          dsimp only
          rw [HNMS.out, HK.out]
        clear HV HV1
        go_loopw [] (fun wr => ∃ (f : Nat) (cons : List MCon) (p : RP) (vc : Value), Hid (rowR s.size ts [99, 111, 110] (conStepR s.size ts names) f cons p = K) ∧ Hid (RSt ⟨R, NB, R, s.size, ts, names, .slice al acc.length cl, vc, 0, 0⟩ p wr) ∧ Hid (Fr (XR9 R) W3 wr) ∧ Hid (LCr W3.heap.size wr vc cons) ∧ cons.length + f = ts.length + 2 ∧ ts.length + 2 ≤ f + p.k) (fun wr => ts.length + 3 - cellLen wr ⟨R, 5, none⟩)
        case atStart => exact ⟨ts.length + 2, [], p, _, HK, HS4, Fr.refl _ _, LCr.none _ _, by simp, by omega⟩
        case round =>
          clear HK HS4
          obtain ⟨f, cons, p, vc, HQ, HS, HF, HL, haf, hfk⟩ := hrel
          obtain ⟨ac, cc, hv⟩ := HL.out.form
          subst hv
          have HKT := HS.out.kT
          dsimp only at HKT
          have HM0 : Hid (cellLen wr ⟨R, 5, none⟩ = cons.length) := by obtain ⟨v, hb, _⟩ := HS.out.blk; show _ = _; unfold cellLen; rw [blk9 hb 5 _ rfl]; rfl
          go_wp2_with fail
          refine (rtext_any _ p _ HS.out).mono ?_
          rintro e w4 ⟨rfl, nd, hw4⟩
          have hd4 := drew9_below hw4
          have HS4 : Hid (RSt ⟨R, NB, R, s.size, ts, names, .slice al acc.length cl, .slice ac cons.length cc, 0, 0⟩ p w4) := HS.out.below hd4
          have HF5 : Hid (Fr (XR9 R) W3 w4) := HF.out.trans (Fr.below hd4)
          have HL4 : Hid (LCr W3.heap.size w4 (.slice ac cons.length cc) cons) := HL.out.fr (X := fun _ => False) (Fr.below hd4) (fun _ h => h.elim)
          clear hd4 hw4 HS HF HL
          dsimp only
          cases hq : ((txR s.size ts p).toList == [99, 111, 110])
          · have HK1 : Hid (K = (cons, p)) := HQ.out.symm.trans (row_end _ _ _ _ _ _ _ hq)
            rw [HK1.out] at HMR
            dsimp only at HMR
            clear HQ HK1 HM0 haf hfk
            go_wp2_with fail
            clear hq
            refine (rneed_any _ p solveW solid_solve _ HS4.out).mono ?_
            rintro e w5 ⟨rfl, hst, hfr⟩
            dsimp only at hst hfr
            obtain ⟨p1, hp1⟩ : ∃ p1, needR s.size ts solveW p = p1 := ⟨_, rfl⟩
            have HP1 : Hid (needR s.size ts solveW p = p1) := hp1
            rw [hp1] at hst
            have HS5 : Hid (RSt ⟨R, NB, R, s.size, ts, names, .slice al acc.length cl, .slice ac cons.length cc, 0, 0⟩ p1 w5) := hst
            have HF6 : Hid (Fr (XR9 R) W3 w5) := HF5.out.trans hfr
            have HL5 : Hid (LCr W3.heap.size w5 (.slice ac cons.length cc) cons) := HL4.out.fr hfr (fun j hj => by have h1 : j = R := hj; have h2 := HRN.out; rw [h1, HNB.out]; exact h2)
            clear hst hfr hp1 HS4 HF5 HL4
            have HSA : Hid (SArg (w5.alloc (.cells #[.string ⟨#[97, 110, 121]⟩, .string ⟨#[108, 101, 97, 115, 116]⟩, .string ⟨#[109, 111, 115, 116]⟩] 9)) (.slice (some ⟨w5.heap.size, 0, none⟩) 3 3) goalWL) := strs9 w5 goalWL _ rfl (by decide)
            have HSB : Hid (RSt ⟨R, NB, R, s.size, ts, names, .slice al acc.length cl, .slice ac cons.length cc, 0, 0⟩ p1 (w5.alloc (.cells #[.string ⟨#[97, 110, 121]⟩, .string ⟨#[108, 101, 97, 115, 116]⟩, .string ⟨#[109, 111, 115, 116]⟩] 9))) := HS5.out.below (below_alloc _ _)
            go_wp2_with fail
            refine (rword_any _ p1 goalWL solid_goals _ _ HSB.out HSA.out).mono ?_
            rintro e w6 ⟨rfl, hst, hfr⟩
            dsimp only at hst hfr ⊢
            obtain ⟨q2, hq2⟩ : ∃ q2, wordR s.size ts p1 goalWL 0 = q2 := ⟨_, rfl⟩
            rw [hq2] at hst ⊢
            obtain ⟨g, p2⟩ := q2
            have HG : Hid (goalR s.size ts names p = goalEndR s.size ts names g p2) := by show _ = _; unfold goalR; rw [HP1.out, hq2]
            dsimp only at hst ⊢
            have hfb : Fr (XR9 R) w5 w6 := (Fr.below (below_alloc _ _)).trans hfr
            have hL6 : LCr W3.heap.size w6 (.slice ac cons.length cc) cons := HL5.out.fr hfb (fun j hj => by have h1 : j = R := hj; have h2 := HRN.out; rw [h1, HNB.out]; exact h2)
            have k6 : w6.cell? ⟨R, 6, none⟩ = some (.int .i64 0) := by obtain ⟨v, hb, _⟩ := hst.blk; exact blk9 hb 6 _ rfl
            have z6 : w6.frozen? ⟨R, 6, none⟩ = false := by obtain ⟨v, hb, _⟩ := hst.blk; exact frz9 hb 6
            have k3 : w6.cell? ⟨R, 3, none⟩ = some (.int .i64 p2.er) := by obtain ⟨v, hb, _⟩ := hst.blk; exact blk9 hb 3 _ rfl
            have HSg : Hid (RSt ⟨R, NB, R, s.size, ts, names, .slice al acc.length cl, .slice ac cons.length cc, g, 0⟩ p2 (w6.setCell ⟨R, 6, none⟩ (.int .i64 g))) := hst.setG g
            have HFg : Hid (Fr (XR9 R) W3 (w6.setCell ⟨R, 6, none⟩ (.int .i64 g))) := (HF6.out.trans hfb).setX (p := ⟨R, 6, none⟩) rfl _
            have HLg : Hid (LCr W3.heap.size (w6.setCell ⟨R, 6, none⟩ (.int .i64 g)) (.slice ac cons.length cc) cons) := by obtain ⟨v, hb, _⟩ := hst.blk; exact hL6.setR hb 6 _
            clear hst hfr hq2 hfb hL6 HS5 HF6 HL5 HSA HSB HP1
            obtain ⟨k2, er⟩ := p2
            dsimp only at k3
            by_cases hc0 : er = 0
            rotate_left
            have hcb : (er == 0) = false := by simpa using hc0
            obtain ⟨x, hx⟩ : ∃ x : Int, x = 0 := ⟨0, rfl⟩
            have HS8 : Hid (RSt ⟨R, NB, R, s.size, ts, names, .slice al acc.length cl, .slice ac cons.length cc, g, x⟩ ⟨k2, er⟩ (w6.setCell ⟨R, 6, none⟩ (.int .i64 g))) := by rw [hx]; exact HSg.out
            have HG3 : Hid (goalR s.size ts names p = ((g, x), needR s.size ts semiW ⟨k2, er⟩)) := by show _ = _; rw [HG.out, hx]; unfold goalEndR; rw [if_neg (fun h => hc0 h.1)]
            have HF8 : Hid (Fr (XR9 R) W3 (w6.setCell ⟨R, 6, none⟩ (.int .i64 g))) := HFg.out
            have HL8 : Hid (LCr W3.heap.size (w6.setCell ⟨R, 6, none⟩ (.int .i64 g)) (.slice ac cons.length cc) cons) := HLg.out
            obtain ⟨p3, hp3⟩ : ∃ p3 : RP, p3 = ⟨k2, er⟩ := ⟨_, rfl⟩
            rw [← hp3] at HS8 HG3
            clear hx hp3 HSg HFg HLg HG hc0
            go_wp2_with fail
            obtain ⟨w8, hw8⟩ : ∃ w8, w6.setCell ⟨R, 6, none⟩ (.int .i64 g) = w8 := ⟨_, rfl⟩
            rw [hw8] at HS8 HF8 HL8 ⊢
            clear hw8 k6 z6 k3
            clear hcb
            rotate_left
            subst hc0
            go_wp2_with fail
            have hgt : (g != 0) = true := by assumption
            have hg0 : ¬ g = 0 := by simpa using hgt
            refine (rv_any _ ⟨k2, 0⟩ _ HSg.out).mono ?_
            rintro e w7 ⟨rfl, hst, hfr⟩
            dsimp only at hst hfr ⊢
            obtain ⟨q3, hq3⟩ : ∃ q3, vR s.size ts names ⟨k2, 0⟩ = q3 := ⟨_, rfl⟩
            rw [hq3] at hst ⊢
            obtain ⟨x, p3⟩ := q3
            have HG3 : Hid (goalR s.size ts names p = ((g, x), needR s.size ts semiW p3)) := by show _ = _; rw [HG.out]; unfold goalEndR; rw [if_pos ⟨rfl, hg0⟩, hq3]
            dsimp only at hst ⊢
            have hL7 : LCr W3.heap.size w7 (.slice ac cons.length cc) cons := HLg.out.fr hfr (fun j hj => by have h1 : j = R := hj; have h2 := HRN.out; rw [h1, HNB.out]; exact h2)
            have k7 : w7.cell? ⟨R, 7, none⟩ = some (.int .i64 0) := by obtain ⟨v, hb, _⟩ := hst.blk; exact blk9 hb 7 _ rfl
            have z7 : w7.frozen? ⟨R, 7, none⟩ = false := by obtain ⟨v, hb, _⟩ := hst.blk; exact frz9 hb 7
            have HS8 : Hid (RSt ⟨R, NB, R, s.size, ts, names, .slice al acc.length cl, .slice ac cons.length cc, g, x⟩ p3 (w7.setCell ⟨R, 7, none⟩ (.int .i64 x))) := hst.setX x
            have HF8 : Hid (Fr (XR9 R) W3 (w7.setCell ⟨R, 7, none⟩ (.int .i64 x))) := (HFg.out.trans hfr).setX (p := ⟨R, 7, none⟩) rfl _
            have HL8 : Hid (LCr W3.heap.size (w7.setCell ⟨R, 7, none⟩ (.int .i64 x)) (.slice ac cons.length cc) cons) := by obtain ⟨v, hb, _⟩ := hst.blk; exact hL7.setR hb 7 _
            clear hst hfr hq3 hL7 HSg HFg HLg HG k6 z6 k3 hgt hg0
            go_wp2_with fail
            obtain ⟨w8, hw8⟩ : ∃ w8, w7.setCell ⟨R, 7, none⟩ (.int .i64 x) = w8 := ⟨_, rfl⟩
            rw [hw8] at HS8 HF8 HL8 ⊢
            clear hw8 k7 z7
            rotate_left
            have hgf : (g != 0) = false := by assumption
            have hg0 : g = 0 := by simpa using hgf
            subst hc0
            obtain ⟨x, hx⟩ : ∃ x : Int, x = 0 := ⟨0, rfl⟩
            have HS8 : Hid (RSt ⟨R, NB, R, s.size, ts, names, .slice al acc.length cl, .slice ac cons.length cc, g, x⟩ ⟨k2, 0⟩ (w6.setCell ⟨R, 6, none⟩ (.int .i64 g))) := by rw [hx]; exact HSg.out
            have HG3 : Hid (goalR s.size ts names p = ((g, x), needR s.size ts semiW ⟨k2, 0⟩)) := by show _ = _; rw [HG.out, hx]; unfold goalEndR; rw [if_neg (fun h => h.2 hg0)]
            have HF8 : Hid (Fr (XR9 R) W3 (w6.setCell ⟨R, 6, none⟩ (.int .i64 g))) := HFg.out
            have HL8 : Hid (LCr W3.heap.size (w6.setCell ⟨R, 6, none⟩ (.int .i64 g)) (.slice ac cons.length cc) cons) := HLg.out
            obtain ⟨p3, hp3⟩ : ∃ p3 : RP, p3 = ⟨k2, 0⟩ := ⟨_, rfl⟩
            rw [← hp3] at HS8 HG3
            clear hx hp3 HSg HFg HLg HG hg0
            obtain ⟨w8, hw8⟩ : ∃ w8, w6.setCell ⟨R, 6, none⟩ (.int .i64 g) = w8 := ⟨_, rfl⟩
            rw [hw8] at HS8 HF8 HL8 ⊢
            clear hw8 k6 z6 k3
            clear hgf
            all_goals
              refine (rneed_any _ p3 semiW solid_semi _ HS8.out).mono ?_
              rintro e w9 ⟨rfl, hst, hfr⟩
              dsimp only at hst hfr
              obtain ⟨p4, hp4⟩ : ∃ p4, needR s.size ts semiW p3 = p4 := ⟨_, rfl⟩
              rw [hp4] at hst HG3
              have HM2 : Hid (modelR s.size ts ⟨0, 0⟩ = (⟨acc, cons, g, x⟩, if p4.k < ts.length then wrongR 1 p4 else p4)) := by show _ = _; rw [HMR.out, HG3.out]
              have HS9 : Hid (RSt ⟨R, NB, R, s.size, ts, names, .slice al acc.length cl, .slice ac cons.length cc, g, x⟩ p4 w9) := hst
              have HF9 : Hid (Fr (XR9 R) W3 w9) := HF8.out.trans hfr
              have HL9 : Hid (LCr W3.heap.size w9 (.slice ac cons.length cc) cons) := HL8.out.fr hfr (fun j hj => by have h1 : j = R := hj; have h2 := HRN.out; rw [h1, HNB.out]; exact h2)
              have a1 : w9.cell? ⟨R, 1, none⟩ = some (.int .i64 p4.k) := by obtain ⟨v, hb, _⟩ := hst.blk; exact blk9 hb 1 _ rfl
              clear hst hfr hp4 HS8 HF8 HL8 HMR HG3
              obtain ⟨k4, er4⟩ := p4
              dsimp only at a1 HM2
              by_cases hk : k4 < ts.length
              case' pos =>
                have HM3 : Hid (modelR s.size ts ⟨0, 0⟩ = (⟨acc, cons, g, x⟩, wrongR 1 ⟨k4, er4⟩)) := by show _ = _; rw [HM2.out, if_pos hk]
                go_wp2_with fail
                refine (rwrong_any _ ⟨k4, er4⟩ 1 _ HS9.out).mono ?_
                rintro e wa ⟨rfl, hst, hfr⟩
                dsimp only at hst hfr
                obtain ⟨p5, hp5⟩ : ∃ p5, wrongR 1 ⟨k4, er4⟩ = p5 := ⟨_, rfl⟩
                rw [hp5] at hst HM3
                have HSa : Hid (RSt ⟨R, NB, R, s.size, ts, names, .slice al acc.length cl, .slice ac cons.length cc, g, x⟩ p5 wa) := hst
                have HFa : Hid (Fr (XR9 R) W3 wa) := HF9.out.trans hfr
                have HLa : Hid (LCr W3.heap.size wa (.slice ac cons.length cc) cons) := HL9.out.fr hfr (fun j hj => by have h1 : j = R := hj; have h2 := HRN.out; rw [h1, HNB.out]; exact h2)
                clear hst hfr hp5 HS9 HF9 HL9 HM2 a1 hk
              case' neg =>
                obtain ⟨wa, hwa⟩ : ∃ wa, w9 = wa := ⟨_, rfl⟩
                rw [hwa] at HS9 HF9 HL9 a1 ⊢
                obtain ⟨p5, hp5⟩ : ∃ p5 : RP, ⟨k4, er4⟩ = p5 := ⟨_, rfl⟩
                have HM3 : Hid (modelR s.size ts ⟨0, 0⟩ = (⟨acc, cons, g, x⟩, p5)) := by show _ = _; rw [HM2.out, if_neg hk, hp5]
                have HSa : Hid (RSt ⟨R, NB, R, s.size, ts, names, .slice al acc.length cl, .slice ac cons.length cc, g, x⟩ p5 wa) := by rw [← hp5]; exact HS9.out
                have HFa : Hid (Fr (XR9 R) W3 wa) := HF9.out
                have HLa : Hid (LCr W3.heap.size wa (.slice ac cons.length cc) cons) := HL9.out
                clear hwa hp5 HS9 HF9 HL9 HM2
              all_goals
                obtain ⟨k5, er5⟩ := p5
                have e3 : wa.cell? ⟨R, 3, none⟩ = some (.int .i64 er5) := by obtain ⟨v, hb, _⟩ := HSa.out.blk; exact blk9 hb 3 _ rfl
                have hlt1 : w.heap.size < w1.heap.size := (Array.getElem?_eq_some_iff.1 HQ1.out).1
                have hltR : w.heap.size < R := by rw [← HRR.out]; exact hlt1
                have HWW : Hid (w.heap.size < W2.heap.size) := Nat.lt_of_lt_of_le hlt1 HB2.out.size
                have HQa : Hid (wa.heap[w.heap.size]? = some (.cells #[.slice none 0 0, .slice none 0 0, .int .i64 0, .int .i64 0] 25)) := by
                  have h2 := HWW.out
                  have h3 := HF4.out.size
                  exact (HFa.out.block _ (by omega) (by show ¬ _ = R; omega)).trans ((HF4.out.block _ h2 (by show ¬ _ = R; omega)).trans ((HB2.out.block _ hlt1).trans HQ1.out))
                have HBa : Hid (Below w.heap.size w wa) := below_fr (HB1.out.trans (HB2.out.mono HB1.out.size)) (Nat.le_of_lt HWW.out) (HF4.out.trans HFa.out) (Nat.le_of_lt hltR)
                by_cases h5 : er5 = 0
                · subst h5
                  have HMO : Hid (ModR W2.heap.size wa (.slice al acc.length cl) (.slice ac cons.length cc) ⟨acc, cons, g, x⟩) := ⟨own_fr HO4.out HFa.out (fun j hj => by have h1 : j = R := hj; rw [h1]; exact HRW.out), HLa.out.mono HF4.out.size, HNM.out⟩
                  have q4 : wa.cell? ⟨R, 4, none⟩ = some (.slice al acc.length cl) := by obtain ⟨v, hb, _⟩ := HSa.out.blk; exact blk9 hb 4 _ rfl
                  have q5 : wa.cell? ⟨R, 5, none⟩ = some (.slice ac cons.length cc) := by obtain ⟨v, hb, _⟩ := HSa.out.blk; exact blk9 hb 5 _ rfl
                  have q6 : wa.cell? ⟨R, 6, none⟩ = some (.int .i64 g) := by obtain ⟨v, hb, _⟩ := HSa.out.blk; exact blk9 hb 6 _ rfl
                  have q7 : wa.cell? ⟨R, 7, none⟩ = some (.int .i64 x) := by obtain ⟨v, hb, _⟩ := HSa.out.blk; exact blk9 hb 7 _ rfl
                  go_wp2_with fail
                  refine (show Calls Tryz.prog 10 #[modV (.slice al acc.length cl) (.slice ac cons.length cc) ⟨acc, cons, g, x⟩] _ _ from rcheckmodel_any ⟨acc, cons, g, x⟩ _ _ _ HMO.out.marg).mono ?_
                  obtain ⟨ce, hce⟩ : ∃ ce, rcheckM ⟨acc, cons, g, x⟩ = ce := ⟨_, rfl⟩
                  have HCE : Hid (rcheckM ⟨acc, cons, g, x⟩ = ce) := hce
                  rw [hce]
                  rintro e wb ⟨rfl, hb⟩
                  have HMb : Hid (ModR W2.heap.size wb (.slice al acc.length cl) (.slice ac cons.length cc) ⟨acc, cons, g, x⟩) := HMO.out.below hb
                  have HBb : Hid (Below w.heap.size w wb) := HBa.out.trans (hb.mono HBa.out.size)
                  have HQb : Hid (wb.heap[w.heap.size]? = some (.cells #[.slice none 0 0, .slice none 0 0, .int .i64 0, .int .i64 0] 25)) := (hb.block _ (Array.getElem?_eq_some_iff.1 HQa.out).1).trans HQa.out
                  have HSb : Hid (RSt ⟨R, NB, R, s.size, ts, names, .slice al acc.length cl, .slice ac cons.length cc, g, x⟩ ⟨k5, 0⟩ wb) := HSa.out.below hb
                  clear hce hb HMO HSa HFa HLa HQa HBa q4 q5 q6 q7 e3
                  have n4 : wb.cell? ⟨R, 4, none⟩ = some (.slice al acc.length cl) := by obtain ⟨v, hb, _⟩ := HSb.out.blk; exact blk9 hb 4 _ rfl
                  have n5 : wb.cell? ⟨R, 5, none⟩ = some (.slice ac cons.length cc) := by obtain ⟨v, hb, _⟩ := HSb.out.blk; exact blk9 hb 5 _ rfl
                  have n6 : wb.cell? ⟨R, 6, none⟩ = some (.int .i64 g) := by obtain ⟨v, hb, _⟩ := HSb.out.blk; exact blk9 hb 6 _ rfl
                  have n7 : wb.cell? ⟨R, 7, none⟩ = some (.int .i64 x) := by obtain ⟨v, hb, _⟩ := HSb.out.blk; exact blk9 hb 7 _ rfl
                  have r0 := blk9 HQb.out 0 _ rfl
                  have r1 := blk9 HQb.out 1 _ rfl
                  have r2 := blk9 HQb.out 2 _ rfl
                  have r3 := blk9 HQb.out 3 _ rfl
                  have z0 := frz9 HQb.out 0
                  have z1 := frz9 HQb.out 1
                  have z2 := frz9 HQb.out 2
                  have z3 := frz9 HQb.out 3
                  by_cases hc : ce = 0
                  · subst hc
                    have HX : Hid (m0 = ⟨acc, cons, g, x⟩ ∧ x0 = 0 ∧ e0 = 0) := by
                      have h := HA.out
                      rw [parser_ok HSC.out HM3.out rfl HCE.out] at h
                      cases h
                      exact ⟨rfl, rfl, rfl⟩
                    go_wp2
                    refine bodyPost_ret (by simp [results, Tryz.results22, go_sem, *]; try rfl) rfl ?_
                    obtain ⟨j0, j1, j2⟩ := HX.out
                    subst j0 j1 j2
                    exact ⟨_, _, rfl, ret4_mod HMb.out HWW.out _ _ _ _, ret4 HBb.out _ _ _ _⟩
                  · have hcb : (ce != 0) = true := by simpa using hc
                    have HX : Hid (m0 = noMod ∧ x0 = 0 ∧ e0 = ce) := by
                      have h := HA.out
                      rw [parser_check HSC.out HM3.out rfl (by rw [HCE.out]; exact hc), HCE.out] at h
                      cases h
                      exact ⟨rfl, rfl, rfl⟩
                    clear hc
                    go_wp2
                    refine bodyPost_ret (by simp [results, Tryz.results22, go_sem, *]; try rfl) rfl ?_
                    obtain ⟨j0, j1, j2⟩ := HX.out
                    subst j0 j1 j2
                    exact ⟨_, _, rfl, modr_none _ _, ret4 HBb.out _ _ _ _⟩
                · have h5b : (er5 != 0) = true := by simpa using h5
                  have HX : Hid (m0 = noMod ∧ x0 = (headT s.size (ts.drop k5)).place ∧ e0 = er5) := by
                    have h := HA.out
                    rw [parser_read HSC.out HM3.out h5] at h
                    cases h
                    exact ⟨rfl, rfl, rfl⟩
                  have hnv := rhere_any _ ⟨k5, er5⟩ wa.drew (HSa.out.below (Below.refl _ _).drew)
                  dsimp only at hnv
                  obtain ⟨pl, hpl⟩ : ∃ pl, (headT s.size (ts.drop k5)).place = pl := ⟨_, rfl⟩
                  rw [hpl] at hnv HX
                  clear h5 hpl
                  have r0 := blk9 HQa.out 0 _ rfl
                  have r1 := blk9 HQa.out 1 _ rfl
                  have r2 := blk9 HQa.out 2 _ rfl
                  have r3 := blk9 HQa.out 3 _ rfl
                  have z0 := frz9 HQa.out 0
                  have z1 := frz9 HQa.out 1
                  have z2 := frz9 HQa.out 2
                  have z3 := frz9 HQa.out 3
                  go_wp2_with fail
                  go_region_law
                    (first
                      | (rw [if_pos (by rfl)]; go_simp; go_at_call 65; refine hnv.mono ?_; rintro e wb ⟨rfl, nd, hwb⟩; subst hwb; dsimp only))
                  all_goals
                    go_wp2
                    refine bodyPost_ret (by simp [results, Tryz.results22, go_sem, *]; try rfl) rfl ?_
                    obtain ⟨j0, j1, j2⟩ := HX.out
                    subst j0 j1 j2
                    exact ⟨_, _, rfl, modr_none _ _, ret4 (below_drewN HBa.out _) _ _ _ _⟩
          · obtain ⟨g, hg⟩ : ∃ g, f = g + 1 := ⟨f - 1, by omega⟩
            subst hg
            have HQ3 : Hid (rowR s.size ts [99, 111, 110] (conStepR s.size ts names) g (cons ++ [(conStepR s.size ts names p).1]) (conStepR s.size ts names p).2 = K) := (row_go _ _ _ _ _ _ _ hq).symm.trans HQ.out
            have HKK : Hid (p.k + 1 ≤ (conStepR s.size ts names p).2.k) := constep_k _ _ _ _ hq
            obtain ⟨cr, hcr⟩ : ∃ cr, conStepR s.size ts names p = cr := ⟨_, rfl⟩
            have HCR : Hid (conStepR s.size ts names p = cr) := hcr
            rw [hcr] at HQ3 HKK
            clear HQ hcr
            go_wp2_with fail
            refine (rneed_any _ p conW solid_con _ HS4.out).mono ?_
            rintro e w5 ⟨rfl, hst, hfr⟩
            dsimp only at hst hfr
            obtain ⟨p1, hp1⟩ : ∃ p1, needR s.size ts conW p = p1 := ⟨_, rfl⟩
            have HP1 : Hid (needR s.size ts conW p = p1) := hp1
            rw [hp1] at hst
            have HS5 : Hid (RSt ⟨R, NB, R, s.size, ts, names, .slice al acc.length cl, .slice ac cons.length cc, 0, 0⟩ p1 w5) := hst
            have HF6 : Hid (Fr (XR9 R) W3 w5) := HF5.out.trans hfr
            have HL5 : Hid (LCr W3.heap.size w5 (.slice ac cons.length cc) cons) := HL4.out.fr hfr (fun j hj => by have h1 : j = R := hj; have h2 := HRN.out; rw [h1, HNB.out]; exact h2)
            clear hst hfr hp1 HS4 HF5 HL4 hq
            go_wp2_with fail
            refine (rconR_any _ p1 _ HS5.out).mono ?_
            rintro e w6 ⟨vv, vc, vr, vl, rfl, hcr, hst, hfr⟩
            dsimp only at hst hfr hcr ⊢
            obtain ⟨q2, hq2⟩ : ∃ q2, conR s.size ts names p1 = q2 := ⟨_, rfl⟩
            have HP2 : Hid (conR s.size ts names p1 = q2) := hq2
            rw [hq2] at hst hcr ⊢
            obtain ⟨x, p2⟩ := q2
            dsimp only at hst hcr ⊢
            have hW35 : W3.heap.size ≤ w5.heap.size := HF6.out.size
            have HCX : Hid (ConR W3.heap.size w6 vv vc vr vl x) := hcr.mono hW35
            have HS6 : Hid (RSt ⟨R, NB, R, s.size, ts, names, .slice al acc.length cl, .slice ac cons.length cc, 0, 0⟩ p2 w6) := hst
            have HF7 : Hid (Fr (XR9 R) W3 w6) := HF6.out.trans hfr
            have HL6 : Hid (LCr W3.heap.size w6 (.slice ac cons.length cc) cons) := HL5.out.fr hfr (fun j hj => by have h1 : j = R := hj; have h2 := HRN.out; rw [h1, HNB.out]; exact h2)
            obtain ⟨x1, y1, hx1⟩ := own_form hcr.1
            obtain ⟨x2, y2, hx2⟩ := own_form hcr.2.1
            obtain ⟨x3, y3, hx3⟩ := hcr.2.2.1.form
            obtain ⟨x4, y4, hx4⟩ := own_form hcr.2.2.2
            subst hx1 hx2 hx3 hx4
            clear hst hfr hcr hq2 HS5 HF6 HL5 hW35
            have HSB : Hid (RSt ⟨R, NB, R, s.size, ts, names, .slice al acc.length cl, .slice ac cons.length cc, 0, 0⟩ p2 (w6.alloc (.cells #[.int .i64 x.kind, .slice x1 x.vars.length y1, .slice x2 x.consts.length y2, .int .i64 x.n, .slice x3 x.rows.length y3, .slice x4 x.lits.length y4] 73))) := HS6.out.below (below_alloc _ _)
            unfold conV
            go_wp2_with fail
            refine (rneed_any _ p2 semiW solid_semi _ HSB.out).mono ?_
            rintro e w7 ⟨rfl, hst, hfr⟩
            dsimp only at hst hfr
            obtain ⟨p3, hp3⟩ : ∃ p3, needR s.size ts semiW p2 = p3 := ⟨_, rfl⟩
            rw [hp3] at hst
            have HEQ : Hid (cr = (x, p3)) := by
              show _ = _
              rw [← HCR.out]
              unfold conStepR
              rw [HP1.out, HP2.out]
              dsimp only
              rw [hp3]
            have hxR : ∀ j, XR9 R j → j < W3.heap.size := fun j hj => by have h1 : j = R := hj; have h2 := HRN.out; rw [h1, HNB.out]; exact h2
            have hfb : Fr (XR9 R) w6 w7 := (Fr.below (below_alloc _ _)).trans hfr
            have HCX7 : Hid (ConR W3.heap.size w7 (.slice x1 x.vars.length y1) (.slice x2 x.consts.length y2) (.slice x3 x.rows.length y3) (.slice x4 x.lits.length y4) x) := HCX.out.fr hfb hxR
            have HS7 : Hid (RSt ⟨R, NB, R, s.size, ts, names, .slice al acc.length cl, .slice ac cons.length cc, 0, 0⟩ p3 w7) := hst
            have HF8 : Hid (Fr (XR9 R) W3 w7) := HF7.out.trans hfb
            have hL7 : LCr W3.heap.size w7 (.slice ac cons.length cc) cons := HL6.out.fr hfb hxR
            obtain ⟨bx, hbx⟩ : ∃ bx, w6.heap.size = bx := ⟨_, rfl⟩
            have HBX : Hid (w6.heap.size = bx) := hbx
            have HBO : Hid (w7.heap[bx]? = some (.cells #[.int .i64 x.kind, .slice x1 x.vars.length y1, .slice x2 x.consts.length y2, .int .i64 x.n, .slice x3 x.rows.length y3, .slice x4 x.lits.length y4] 73)) := by
              rw [← hbx]
              exact (hfr.block _ (by simp) (by have h1 := HS6.out.lt; show ¬ _ = _; dsimp only at h1; omega)).trans (heap_alloc_new _ _)
            clear hst hfr hp3 hxR hfb HSB HCX HS6 HF7 HL6 HCR HP1 HP2 hbx
            rw [HEQ.out] at HQ3 HKK
            clear HEQ
            dsimp only at HQ3 HKK
            obtain ⟨cells, h1, h2⟩ := hL7
            have k5 : w7.cell? ⟨R, 5, none⟩ = some (.slice ac cons.length cc) := by obtain ⟨v, hb, _⟩ := HS7.out.blk; exact blk9 hb 5 _ rfl
            have b0 := blk9 HBO.out 0 _ rfl
            have b1 := blk9 HBO.out 1 _ rfl
            have b2 := blk9 HBO.out 2 _ rfl
            have b3 := blk9 HBO.out 3 _ rfl
            have b4 := blk9 HBO.out 4 _ rfl
            have b5 := blk9 HBO.out 5 _ rfl
            have hR7 : R < w7.heap.size := HS7.out.lt
            have hox := h1.alloc (.cells #[.int .i64 x.kind, .slice x1 x.vars.length y1, .slice x2 x.consts.length y2, .int .i64 x.n, .slice x3 x.rows.length y3, .slice x4 x.lits.length y4] 73)
            have hsz : W3.heap.size ≤ w7.heap.size := HF8.out.size
            rw [HBX.out]
            have HH2 : Hid (∀ (i : Nat) (c : MCon), cons[i]? = some c → ∃ vv vc vr vl, (∀ j, j < 6 → cells[i * 6 + j]? = (conC vv vc vr vl c)[j]?) ∧ ConR W3.heap.size w7 vv vc vr vl c) := h2
            have HH1 : Hid (w7.ownsRow W3.heap.size 73 6 (.slice ac cons.length cc) cons.length cells) := h1
            clear h1 h2 HBX
            go_wp2_with (at_builtin; refine wpList_append_own _ rfl _ _ 23 rfl W3.heap.size 73 iC _ 6 112 Tryz.underCons5 hiC hzC0 hzC1 hzC2 rfl (by decide) _ _ _ rfl hox ⟨w7.heap.size, 0, none⟩ 1 1 (conC (.slice x1 x.vars.length y1) (.slice x2 x.consts.length y2) (.slice x3 x.rows.length y3) (.slice x4 x.lits.length y4) x) rfl rfl ?c1 ?c2 ?c3 ?c4 ?c5 ?_)
            case c1 => exact one_laidC w7 _ _ _ _ x
            case c2 => exact one_cells6 HCX7.out
            case c3 => unfold maxLen; omega
            case c4 => omega
            case c5 => simp; omega
            intro v9 w9 hown9 hg9 _
            have hrow : ∀ k, (Value.slice ac cons.length cc).ownBlock = some k → W3.heap.size ≤ k := fun k hk => (HH1.out.lt k hk).1
            have hS9 : RSt ⟨R, NB, R, s.size, ts, names, .slice al acc.length cl, .slice ac cons.length cc, 0, 0⟩ p3 w9 := (HS7.out.below (below_alloc _ _)).grown hg9 (fun k hk => by have h1 := hrow k hk; have h2 := HNB.out; have h3 := HRN.out; exact ⟨by show k ≠ R; omega, by show R ≤ k; omega, by show NB ≤ k; omega⟩)
            have hF9 : Fr (XR9 R) W3 w9 := (HF8.out.alloc _).grown hg9 (fun k hk => Or.inr (hrow k hk))
            have hL9 : LCr W3.heap.size w9 v9 (cons ++ [x]) := LCr.push HH1.out HH2.out HCX7.out hown9 hg9
            have k5' : w9.cell? ⟨R, 5, none⟩ = some (.slice ac cons.length cc) := by obtain ⟨v, hb, _⟩ := hS9.blk; exact blk9 hb 5 _ rfl
            have z5' : w9.frozen? ⟨R, 5, none⟩ = false := by obtain ⟨v, hb, _⟩ := hS9.blk; exact frz9 hb 5
            have HS9 : Hid (RSt ⟨R, NB, R, s.size, ts, names, .slice al acc.length cl, v9, 0, 0⟩ p3 (w9.setCell ⟨R, 5, none⟩ v9)) := hS9.setVc v9
            have HF9 : Hid (Fr (XR9 R) W3 (w9.setCell ⟨R, 5, none⟩ v9)) := hF9.setX (p := ⟨R, 5, none⟩) rfl _
            have HL9 : Hid (LCr W3.heap.size (w9.setCell ⟨R, 5, none⟩ v9) v9 (cons ++ [x])) := by obtain ⟨v, hb, _⟩ := hS9.blk; exact hL9.setR hb 5 v9
            have HLL : Hid ((cons ++ [x]).length = cons.length + 1) := by show _ = _; simp
            obtain ⟨c9, hc9⟩ : ∃ c9, cons ++ [x] = c9 := ⟨_, rfl⟩
            rw [hc9] at HQ3 HL9 HLL
            obtain ⟨a9, d9, hv9⟩ := HL9.out.form
            subst hv9
            clear hown9 hg9 hrow hox hc9 b0 b1 b2 b3 b4 b5 HS7 HF8 hS9 hF9 hL9 HH1 HH2 HCX7 HBO k5
            have HM9 : Hid (cellLen (w9.setCell ⟨R, 5, none⟩ (.slice a9 c9.length d9)) ⟨R, 5, none⟩ = c9.length) := by obtain ⟨v, hb, _⟩ := HS9.out.blk; show _ = _; unfold cellLen; rw [blk9 hb 5 _ rfl]; rfl
            go_wp2
            go_roundw
            case rel => exact ⟨g, c9, p3, _, HQ3, HS9, HF9, HL9, by have := HLL.out; omega, by have := HKK.out; omega⟩
            case measure => have h1 := HLL.out; have h2 := HM9.out; have h3 := HM0.out; simp only [h2, h3]; omega
      · obtain ⟨g, hg⟩ : ∃ g, f = g + 1 := ⟨f - 1, by omega⟩
        subst hg
        have HQ3 : Hid (rowR s.size ts [118, 97, 114] (newVarR s.size ts) g (acc ++ [(newVarR s.size ts p).1]) (newVarR s.size ts p).2 = V) := (row_go _ _ _ _ _ _ _ hq).symm.trans HQ.out
        have HKK : Hid (p.k + 1 ≤ (newVarR s.size ts p).2.k) := newvar_k _ _ _ hq
        obtain ⟨vr, hvr⟩ : ∃ vr, newVarR s.size ts p = vr := ⟨_, rfl⟩
        have HVR : Hid (newVarR s.size ts p = vr) := hvr
        rw [hvr] at HQ3 HKK
        clear HQ hvr
        go_wp2_with fail
        refine (rneed_any _ p varW solid_var _ HS3.out).mono ?_
        rintro e w4 ⟨rfl, hst, hfr⟩
        dsimp only at hst hfr
        obtain ⟨p1, hp1⟩ : ∃ p1, needR s.size ts varW p = p1 := ⟨_, rfl⟩
        have HP1 : Hid (needR s.size ts varW p = p1) := hp1
        rw [hp1] at hst
        have HS4 : Hid (RSt ⟨R, R, R, s.size, ts, [], .slice none 0 0, .slice none 0 0, 0, 0⟩ p1 w4) := hst
        have HF4 : Hid (Fr (XR9 R) W2 w4) := HF3.out.trans hfr
        have HO4 : Hid (w4.ownsRow W2.heap.size 71 3 (.slice al acc.length cl) acc.length (acc.flatMap varC)) := own_fr HO3.out hfr (fun j hj => by have h1 : j = R := hj; rw [h1, HSZ.out]; omega)
        clear hst hfr hp1 HS3 HF3 HO3 hq
        go_wp2_with fail
        refine (rtext_any _ p1 _ HS4.out).mono ?_
        rintro e w5 ⟨rfl, nd, hw5⟩
        have hd5 := drew9_below hw5
        dsimp only
        have HNS : Hid ((txR s.size ts p1).size ≤ maxLen) := by have := tx_size s.size ts HTK.out.1 p1; unfold maxLen; show _ ≤ _; omega
        have HIN : Hid (isNameB (txR s.size ts p1) = true → p1.k + 1 ≤ ts.length ∧ p1.er = 0) := name_in _ _ _
        obtain ⟨nm, hnm⟩ : ∃ nm, txR s.size ts p1 = nm := ⟨_, rfl⟩
        have HNMM : Hid (txR s.size ts p1 = nm) := hnm
        rw [hnm] at HNS HIN ⊢
        have HVB : Hid (VB ⟨R, R, R, s.size, ts, [], .slice none 0 0, .slice none 0 0, 0, 0⟩ W2 (w5.alloc (.cells #[.string nm, .int .i64 0, .int .i64 0] 71)) p1 w5.heap.size nm 0 0 (.slice al acc.length cl) acc) := by
          have hs2 := HSZ.out
          have hf5 : Fr (XR9 R) W2 w5 := HF4.out.trans (Fr.below hd5)
          have ho5 := own_below HO4.out hd5
          refine ⟨(HS4.out.below hd5).below (below_alloc _ _), hf5.alloc _, heap_alloc_new _ _, hf5.size, by show R < _; omega, by show R ≤ _; omega, by show R ≤ _; omega, ho5.alloc _, ?_⟩
          intro e
          have := (ho5.lt _ e).2
          omega
        clear hd5 hw5 hnm HS4 HF4 HO4
        go_wp2_with fail
        refine (isname_any nm HNS.out _).mono ?_
        rintro e w6 ⟨rfl, hb6⟩
        have HVB6 := HVB.out.below hb6
        obtain ⟨bv, hbv⟩ : ∃ bv, w5.heap.size = bv := ⟨_, rfl⟩
        rw [hbv] at HVB6
        have HBV : Hid (w5.heap.size = bv) := hbv
        have HVB6 : Hid (VB ⟨R, R, R, s.size, ts, [], .slice none 0 0, .slice none 0 0, 0, 0⟩ W2 w6 p1 bv nm 0 0 (.slice al acc.length cl) acc) := HVB6
        clear hb6 hbv HVB
        rw [HBV.out]
        clear HBV
        cases hn : isNameB nm
        rotate_left
        have hk1 := (HIN.out hn).1
        have a0 : w6.cell? ⟨R, 1, none⟩ = some (.int .i64 p1.k) := by obtain ⟨v, hb, _⟩ := HVB6.out.st.blk; exact blk9 hb 1 _ rfl
        have a1 : w6.frozen? ⟨R, 1, none⟩ = false := by obtain ⟨v, hb, _⟩ := HVB6.out.st.blk; exact frz9 hb 1
        have HVB7 : Hid (VB ⟨R, R, R, s.size, ts, [], .slice none 0 0, .slice none 0 0, 0, 0⟩ W2 (w6.setCell ⟨R, 1, none⟩ (.int .i64 ((p1.k : Int) + 1))) (stepR p1) bv nm 0 0 (.slice al acc.length cl) acc) := by
          have h := HVB6.out.step (by exact hk1)
          rw [show ((p1.k + 1 : Nat) : Int) = (p1.k : Int) + 1 by omega] at h
          exact h
        have HP2 : Hid ((newNameR s.size ts p1).2 = stepR p1) := by show (if isNameB (txR s.size ts p1) then stepR p1 else wrongR 1 p1) = _; rw [HNMM.out, hn, if_pos rfl]
        clear HVB6 hn HIN
        go_wp2_with fail
        obtain ⟨w7, hw7⟩ : ∃ w7, w6.setCell ⟨R, 1, none⟩ (.int .i64 ((p1.k : Int) + 1)) = w7 := ⟨_, rfl⟩
        rw [hw7] at HVB7 ⊢
        obtain ⟨p2, hp2⟩ : ∃ p2, stepR p1 = p2 := ⟨_, rfl⟩
        rw [hp2] at HVB7 HP2
        clear hw7 hp2 a0 a1 hk1
        rotate_left
        have HP2 : Hid ((newNameR s.size ts p1).2 = wrongR 1 p1) := by show (if isNameB (txR s.size ts p1) then stepR p1 else wrongR 1 p1) = _; rw [HNMM.out, hn, if_neg (by simp)]
        clear HIN
        go_wp2_with fail
        clear hn
        refine (rwrong_any _ p1 1 _ HVB6.out.st).mono ?_
        rintro e w7 ⟨rfl, hst, hfr⟩
        dsimp only at hst hfr
        obtain ⟨p2, hp2⟩ : ∃ p2, wrongR 1 p1 = p2 := ⟨_, rfl⟩
        rw [hp2] at hst HP2
        have HVB7 : Hid (VB ⟨R, R, R, s.size, ts, [], .slice none 0 0, .slice none 0 0, 0, 0⟩ W2 w7 p2 bv nm 0 0 (.slice al acc.length cl) acc) := HVB6.out.call hfr hst
        clear hst hfr hp2 HVB6
        go_wp2_with fail
        all_goals
          refine (rneed_any _ p2 colW solid_col _ HVB7.out.st).mono ?_
          rintro e w8 ⟨rfl, hst, hfr⟩
          dsimp only at hst hfr
          obtain ⟨p3, hp3⟩ : ∃ p3, needR s.size ts colW p2 = p3 := ⟨_, rfl⟩
          rw [hp3] at hst
          have HP3 : Hid (needR s.size ts colW p2 = p3) := hp3
          have HVB8 : Hid (VB ⟨R, R, R, s.size, ts, [], .slice none 0 0, .slice none 0 0, 0, 0⟩ W2 w8 p3 bv nm 0 0 (.slice al acc.length cl) acc) := HVB7.out.call hfr hst
          clear hst hfr hp3 HVB7
          go_wp2_with fail
          refine (rk_any _ p3 _ HVB8.out.st).mono ?_
          rintro e w9 ⟨rfl, hst, hfr⟩
          dsimp only at hst hfr ⊢
          obtain ⟨q4, hq4⟩ : ∃ q4, kR s.size ts p3 = q4 := ⟨_, rfl⟩
          rw [hq4] at hst ⊢
          have HP4 : Hid (kR s.size ts p3 = q4) := hq4
          obtain ⟨lo, p4⟩ := q4
          dsimp only at hst ⊢
          have HVB9 : Hid (VB ⟨R, R, R, s.size, ts, [], .slice none 0 0, .slice none 0 0, 0, 0⟩ W2 w9 p4 bv nm 0 0 (.slice al acc.length cl) acc) := HVB8.out.call hfr hst
          clear hst hfr hq4 HVB8
          have b1 : w9.cell? ⟨bv, 1, none⟩ = some (.int .i64 0) := blk9 HVB9.out.box 1 _ rfl
          have b2 := frz9 HVB9.out.box 1
          have HVBa : Hid (VB ⟨R, R, R, s.size, ts, [], .slice none 0 0, .slice none 0 0, 0, 0⟩ W2 (w9.setCell ⟨bv, 1, none⟩ (.int .i64 lo)) p4 bv nm lo 0 (.slice al acc.length cl) acc) := HVB9.out.setLo lo
          clear HVB9
          go_wp2_with fail
          obtain ⟨wa, hwa⟩ : ∃ wa, w9.setCell ⟨bv, 1, none⟩ (.int .i64 lo) = wa := ⟨_, rfl⟩
          rw [hwa] at HVBa ⊢
          clear hwa b1 b2
          refine (rneed_any _ p4 dotsW solid_dots _ HVBa.out.st).mono ?_
          rintro e wb ⟨rfl, hst, hfr⟩
          dsimp only at hst hfr
          obtain ⟨p5, hp5⟩ : ∃ p5, needR s.size ts dotsW p4 = p5 := ⟨_, rfl⟩
          rw [hp5] at hst
          have HP5 : Hid (needR s.size ts dotsW p4 = p5) := hp5
          have HVBb : Hid (VB ⟨R, R, R, s.size, ts, [], .slice none 0 0, .slice none 0 0, 0, 0⟩ W2 wb p5 bv nm lo 0 (.slice al acc.length cl) acc) := HVBa.out.call hfr hst
          clear hst hfr hp5 HVBa
          go_wp2_with fail
          refine (rk_any _ p5 _ HVBb.out.st).mono ?_
          rintro e wc ⟨rfl, hst, hfr⟩
          dsimp only at hst hfr ⊢
          obtain ⟨q6, hq6⟩ : ∃ q6, kR s.size ts p5 = q6 := ⟨_, rfl⟩
          rw [hq6] at hst ⊢
          have HP6 : Hid (kR s.size ts p5 = q6) := hq6
          obtain ⟨hi, p6⟩ := q6
          dsimp only at hst ⊢
          have HVBc : Hid (VB ⟨R, R, R, s.size, ts, [], .slice none 0 0, .slice none 0 0, 0, 0⟩ W2 wc p6 bv nm lo 0 (.slice al acc.length cl) acc) := HVBb.out.call hfr hst
          clear hst hfr hq6 HVBb
          have b1 : wc.cell? ⟨bv, 2, none⟩ = some (.int .i64 0) := blk9 HVBc.out.box 2 _ rfl
          have b2 := frz9 HVBc.out.box 2
          have HVBd : Hid (VB ⟨R, R, R, s.size, ts, [], .slice none 0 0, .slice none 0 0, 0, 0⟩ W2 (wc.setCell ⟨bv, 2, none⟩ (.int .i64 hi)) p6 bv nm lo hi (.slice al acc.length cl) acc) := HVBc.out.setHi hi
          clear HVBc
          go_wp2_with fail
          obtain ⟨wd, hwd⟩ : ∃ wd, wc.setCell ⟨bv, 2, none⟩ (.int .i64 hi) = wd := ⟨_, rfl⟩
          rw [hwd] at HVBd ⊢
          clear hwd b1 b2
          refine (rneed_any _ p6 semiW solid_semi _ HVBd.out.st).mono ?_
          rintro e we ⟨rfl, hst, hfr⟩
          dsimp only at hst hfr
          obtain ⟨p7, hp7⟩ : ∃ p7, needR s.size ts semiW p6 = p7 := ⟨_, rfl⟩
          rw [hp7] at hst
          have HVBe : Hid (VB ⟨R, R, R, s.size, ts, [], .slice none 0 0, .slice none 0 0, 0, 0⟩ W2 we p7 bv nm lo hi (.slice al acc.length cl) acc) := HVBd.out.call hfr hst
          have HEQ : Hid (vr = (⟨nm, lo, hi⟩, p7)) := by
            show _ = _
            rw [← HVR.out]
            unfold newVarR
            dsimp only
            rw [HP1.out, HP2.out, HP3.out, HP4.out]
            dsimp only
            rw [HP5.out, HP6.out]
            dsimp only
            rw [hp7]
            unfold newNameR
            rw [HNMM.out]
          clear hst hfr hp7 HVBd HP1 HP2 HP3 HP4 HP5 HP6 HVR HNMM
          rw [HEQ.out] at HQ3 HKK
          clear HEQ
          dsimp only at HQ3 HKK
          have b0 : we.cell? ⟨bv, 0, none⟩ = some (.string nm) := blk9 HVBe.out.box 0 _ rfl
          have b1 : we.cell? ⟨bv, 1, none⟩ = some (.int .i64 lo) := blk9 HVBe.out.box 1 _ rfl
          have b2 : we.cell? ⟨bv, 2, none⟩ = some (.int .i64 hi) := blk9 HVBe.out.box 2 _ rfl
          have hox := HVBe.out.own.alloc (.cells #[.string nm, .int .i64 lo, .int .i64 hi] 71)
          have hsz : W2.heap.size ≤ we.heap.size := HVBe.out.fr.size
          go_wp2_with (at_builtin; refine wpList_append_own _ rfl _ _ 22 rfl W2.heap.size 71 iV (.agg #[.string ⟨#[]⟩, .int .i64 0, .int .i64 0]) 3 32 Tryz.underVars5 hiV hzV0 hzV1 hzV2 rfl (by decide) _ _ _ rfl hox ⟨we.heap.size, 0, none⟩ 1 1 (varC ⟨nm, lo, hi⟩) rfl rfl ?c1 ?c2 ?c3 ?c4 ?c5 ?_)
          case c1 => exact one_laidV we ⟨nm, lo, hi⟩
          case c2 => exact one_cells3 _
          case c3 => unfold maxLen; omega
          case c4 => omega
          case c5 => simp; omega
          intro v9 w9 hown9 hg9 _
          have hrow : ∀ k, (Value.slice al acc.length cl).ownBlock = some k → W2.heap.size ≤ k := fun k hk => (HVBe.out.own.lt k hk).1
          have HS9 : Hid (RSt ⟨R, R, R, s.size, ts, [], .slice none 0 0, .slice none 0 0, 0, 0⟩ p7 w9) := (HVBe.out.st.below (below_alloc _ _)).grown hg9 (fun k hk => by have h1 := hrow k hk; have h2 := HSZ.out; exact ⟨by show k ≠ R; omega, by show R ≤ k; omega, by show R ≤ k; omega⟩)
          have HF9 : Hid (Fr (XR9 R) W2 w9) := (HVBe.out.fr.alloc _).grown hg9 (fun k hk => Or.inr (hrow k hk))
          have HO9 : Hid (w9.ownsRow W2.heap.size 71 3 v9 (acc ++ [(⟨nm, lo, hi⟩ : MVar)]).length ((acc ++ [(⟨nm, lo, hi⟩ : MVar)]).flatMap varC)) := by
            show w9.ownsRow _ _ _ _ _ _
            rw [List.length_append, flat_snoc]; exact hown9
          have HNM9 : Hid (∀ x ∈ acc ++ [(⟨nm, lo, hi⟩ : MVar)], x.name.size ≤ maxLen) := fun x hx => by
            rcases List.mem_append.1 hx with hx | hx
            · exact HNM.out x hx
            · rw [List.mem_singleton.1 hx]; exact HNS.out
          have HL9 : Hid ((acc ++ [(⟨nm, lo, hi⟩ : MVar)]).length = acc.length + 1) := by show _ = _; simp
          have HK9 : Hid (p.k + 1 ≤ p7.k) := HKK.out
          obtain ⟨acc2, hacc2⟩ : ∃ acc2, acc ++ [(⟨nm, lo, hi⟩ : MVar)] = acc2 := ⟨_, rfl⟩
          rw [hacc2] at HQ3 HO9 HNM9 HL9
          obtain ⟨a9, c9, hv9⟩ := own_form HO9.out
          subst hv9
          clear hown9 hg9 hrow hox hacc2 b0 b1 b2 HVBe
          go_wp2
          go_roundw
          case rel => exact ⟨g, acc2, p7, HQ3, HS9, HF9, HO9, HNM9, by have := HL9.out; omega, by have := HK9.out; omega⟩
          case measure => have h1 := HL9.out; simp [lenOf]; omega
  · have he1b : (e1 != 0) = true := by simpa using he1
    have HX : Hid (m0 = noMod ∧ x0 = (at1 : Int) ∧ e0 = e1) := by
      have h := HA.out
      rw [parser_scan HSC.out he1] at h
      cases h
      exact ⟨rfl, rfl, rfl⟩
    have r0 := blk9 HQ1.out 0 _ rfl
    have r1 := blk9 HQ1.out 1 _ rfl
    have r2 := blk9 HQ1.out 2 _ rfl
    have r3 := blk9 HQ1.out 3 _ rfl
    have z0 := frz9 HQ1.out 0
    have z1 := frz9 HQ1.out 1
    have z2 := frz9 HQ1.out 2
    have z3 := frz9 HQ1.out 3
    clear he1
    go_wp2
    refine bodyPost_ret (by simp [results, Tryz.results22, go_sem, *]; try rfl) rfl ?_
    obtain ⟨k0, k1, k2⟩ := HX.out
    subst k0 k1 k2
    exact ⟨_, _, rfl, modr_none _ _, ret4 HB1.out _ _ _ _⟩
end Go.Proofs.YtdjbejlbmaiocagGreatDoor
/-
  PLAIN: the reference's ParseOf answers what Parse answers.
-/
namespace Go.Proofs.YtdjbejlbmaiocagGreatDoor

theorem word_in (en : Int) (T : List Tok) (p : RP) : ∀ (ws : List ByteArray) (i : Nat), (wordR en T p ws i).1 = 0 ∨ ((i : Int) ≤ (wordR en T p ws i).1 ∧ (wordR en T p ws i).1 < ((i + ws.length : Nat) : Int))
  | [], i => by unfold wordR; exact Or.inl rfl
  | s :: r, i => by
    unfold wordR
    split
    · right; dsimp only; simp only [List.length_cons]; omega
    · rcases word_in en T p r (i + 1) with h | h
      · exact Or.inl h
      · right; simp only [List.length_cons] at h ⊢; omega
def OpIn (l : MLit) : Prop := 1 ≤ l.op ∧ l.op ≤ 4
theorem lit_op (en : Int) (T : List Tok) (nm : List ByteArray) (p : RP) : OpIn (litR en T nm p).1 := by
  unfold litR OpIn
  dsimp only
  have := word_in en T (vR en T nm p).2 opWL.tail 0
  have e : opWL.tail.length = 4 := rfl
  rw [e] at this
  omega
theorem loop_all {α : Type} (en : Int) (T : List Tok) (item : RP → α × RP) (P : α → Prop) (hi : ∀ p, P (item p).1) : ∀ (f : Nat) (acc : List α) (q : Bool × RP), (∀ x ∈ acc, P x) → ∀ x ∈ (loopR en T item f acc q).1, P x
  | 0, acc, q, h => by unfold loopR; exact h
  | f + 1, acc, q, h => by
    unfold loopR
    split
    · refine loop_all en T item P hi f _ _ (fun x hx => ?_)
      rcases List.mem_append.1 hx with hx | hx
      · exact h x hx
      · rw [List.mem_singleton.1 hx]; exact hi _
    · exact h
theorem list_all {α : Type} (en : Int) (T : List Tok) (item : RP → α × RP) (P : α → Prop) (hi : ∀ p, P (item p).1) (p : RP) : ∀ x ∈ (listR en T item p).1, P x :=
  loop_all en T item P hi _ _ _ (fun x hx => by cases hx)
theorem row_all {α : Type} (en : Int) (T : List Tok) (wd : List UInt8) (item : RP → α × RP) (P : α → Prop) (hi : ∀ p, P (item p).1) : ∀ (f : Nat) (acc : List α) (p : RP), (∀ x ∈ acc, P x) → ∀ x ∈ (rowR en T wd item f acc p).1, P x
  | 0, acc, p, h => by unfold rowR; exact h
  | f + 1, acc, p, h => by
    unfold rowR
    split
    · refine row_all en T wd item P hi f _ _ (fun x hx => ?_)
      rcases List.mem_append.1 hx with hx | hx
      · exact h x hx
      · rw [List.mem_singleton.1 hx]; exact hi _
    · exact h
theorem con_op (en : Int) (T : List Tok) (nm : List ByteArray) (p : RP) : ∀ l ∈ (conR en T nm p).1.lits, OpIn l := by
  unfold conR
  generalize (wordR en T p conWL.tail 0).2 = p1
  generalize 1 + (wordR en T p conWL.tail 0).1 = k
  unfold bodyR
  split
  · intro l hl; cases hl
  split
  · intro l hl; cases hl
  split
  · intro l hl; cases hl
  split
  · intro l hl; cases hl
  split
  · intro l hl; cases hl
  split
  · intro l hl; cases hl
  split
  · exact list_all en T (litR en T nm) OpIn (lit_op en T nm) p1
  split
  · intro l hl; rw [List.mem_singleton.1 hl]; exact lit_op en T nm _
  · intro l hl; cases hl
theorem model_lits (en : Int) (T : List Tok) (p : RP) : LitsIn (modelR en T p).1 := by
  intro c hc
  unfold modelR at hc
  exact row_all en T [99, 111, 110] _ (fun c => ∀ l ∈ c.lits, OpIn l) (fun p => con_op en T _ _) _ _ _ (fun x hx => by cases hx) c hc
theorem parseR_same (s : ByteArray) : parseR s = parseA s := by
  unfold parseR parseA
  by_cases h0 : (scanOf s).2.2 = 0
  · rw [if_pos h0, if_pos h0]
    have hm := model_same (s.size : Int) (scanOf s).1 (scan_solid s) ⟨0, 0⟩ rfl (Nat.zero_le _)
    have hl := model_lits (s.size : Int) (scanOf s).1 ⟨0, 0⟩
    rw [show (scanOf s).1.drop (⟨0, 0⟩ : RP).k = (scanOf s).1 from rfl] at hm
    unfold readA
    cases hq : modelP (s.size : Int) (scanOf s).1 with
    | ok m r =>
      rw [hq] at hm
      obtain ⟨e1, e2, e3, e4⟩ := hm
      have h1 := rcheckM_same _ hl
      have h2 := check_agree _ _ e4
      rw [if_pos e1]
      dsimp only
      rw [if_pos rfl, h1, h2.1]
      by_cases hc : checkM m = 0
      · rw [if_pos hc, if_pos hc, h2.2 hc]
      · rw [if_neg hc, if_neg hc]
    | bad x e =>
      rw [hq] at hm
      obtain ⟨e1, e2, e3, e4⟩ := hm
      rw [if_neg (by rw [e1]; exact e2)]
      dsimp only
      rw [if_neg e2, e3, e1]
  · rw [if_neg h0, if_neg h0]
end Go.Proofs.YtdjbejlbmaiocagGreatDoor
/-
  WALKS: package text: the printer: number, what is written on, line.
-/
namespace Go.Proofs.YtdjbejlbmaiocagGreatDoor
open Go.RowKit

/-- The table of strconv's, which lies below a block. -/
def TabN (N : Nat) (w : World) : Prop := Lib.TabIs Tryz.prog w "internal/strconv.uint64pow10" .u64 Lib.pow10Tab ∧ ∀ g, Tryz.prog.globalNamed "internal/strconv.uint64pow10" = some g → g < N
theorem TabN.fr {X : Nat → Prop} {N : Nat} {w w' : World} (h : TabN N w) (hf : Fr X w w') (hX : ∀ k, X k → N ≤ k) : TabN N w' := by
  refine ⟨?_, h.2⟩
  have h1 := h.1
  unfold Lib.TabIs World.var? at h1 ⊢
  cases hg : Tryz.prog.globalNamed "internal/strconv.uint64pow10" with
  | none => rw [hg] at h1; exact h1
  | some g =>
    rw [hg] at h1
    have hlt : g < w.heap.size := by
      rcases Nat.lt_or_ge g w.heap.size with h' | h'
      · exact h'
      · simp [Array.getElem?_eq_none h'] at h1
    have hb := hf.block g hlt (fun hx => by have := hX g hx; have := h.2 g hg; omega)
    simp only [Option.bind_some] at h1 ⊢
    rw [hb]; exact h1
theorem TabN.below {N : Nat} {w w' : World} (h : TabN N w) (hb : Below w.heap.size w w') : TabN N w' := h.fr (X := fun _ => False) (Fr.below hb) (fun _ hk => hk.elim)
def numB (n : Int) : ByteArray := ⟨(Lib.itoa n).toArray⟩
def okI (n : Int) : Prop := -9223372036854775808 ≤ n ∧ n ≤ 9223372036854775807
set_option maxHeartbeats 400000 in
set_option maxRecDepth 100000 in
theorem pnumber_any (N : Nat) (n : Int) (hn : okI n) (w : World) (ht : TabN N w) :
    Calls Tryz.prog 165 #[.int .i64 n] w fun e w' => e = .returned (.string (numB n)) ∧ Below w.heap.size w w' := by
  have HT := ht.1
  obtain ⟨h0, h1⟩ := hn
  go_enter Tryz.func165, Tryz.ntmps165
  go_wp2_with fail
  refine (Tryz.strconv_Itoa n h0 h1 w HT).mono ?_
  rintro e w1 ⟨rfl, k, os, hw⟩
  have hb : Below w.heap.size w w1 := by rw [hw]; exact Lib.below_grow w.heap.size w (Nat.le_refl _) k os
  clear hw
  go_wp2
  go_ret
  exact ⟨rfl, hb⟩

set_option maxHeartbeats 1000000 in
set_option maxRecDepth 100000 in
theorem pr_check_used (b : Nat) (w : World) (h0 : w.cell? ⟨b, 0, none⟩ = some (.pointer (some ⟨b, 0, none⟩))) :
    Calls Tryz.prog 162 #[.pointer (some ⟨b, 0, none⟩)] w fun e w' => e = .returned (.tuple #[]) ∧ w' = w := by
  obtain ⟨j, hj, _⟩ := Option.map_eq_some_iff.1 Tryz.Builder_Extra_169.sizeBuilder
  go_enter Tryz.func162, Tryz.ntmps162
  go_wp2
  rw [Lib.run_neq_ptr_same w _ Tryz.underlying148 hj]
  go_wp2
  go_end0
  exact ⟨rfl, rfl⟩
theorem Tryz.liesPrinter : liesAt Tryz.prog Tryz.prog.depth 166 (3 / Tryz.prog.cellsOf 166) 0 150 1 = true := by kernel_rfl
set_option maxHeartbeats 1000000 in
set_option maxRecDepth 100000 in
theorem pr_check_fresh (b : Nat) (w : World) (h0 : w.cell? ⟨b, 0, none⟩ = some (.pointer none)) (hsh : w.shape? b = some (166, 3)) (hfz : w.frozen? ⟨b, 0, none⟩ = false) :
    Calls Tryz.prog 162 #[.pointer (some ⟨b, 0, none⟩)] w fun e w' => e = .returned (.tuple #[]) ∧ w' = w.setCell ⟨b, 0, none⟩ (.pointer (some ⟨b, 0, none⟩)) := by
  obtain ⟨j, hj, hjs⟩ := Option.map_eq_some_iff.1 Tryz.Builder_Extra_169.sizeBuilder
  go_enter Tryz.func162, Tryz.ntmps162
  go_wp2
  rw [Lib.run_to_unsafe w ⟨b, 0, none⟩ Tryz.underlying148 Tryz.underlying269 hj (by rw [hjs]; decide) hsh (Nat.zero_lt_succ 2)]
  simp only [Result.andThen]
  rw [Oper.upon_value]
  go_wp2
  rw [run_callFunc_extern Tryz.func228 (by kernel_rfl) (by kernel_rfl) (by kernel_rfl) (e := Extern.AbiNoEscape.same) (by kernel_rfl)]
  rw [Lib.run_noEscape]
  simp only [Result.andThen]
  rw [Oper.upon_value]
  go_wp2
  rw [Lib.run_from_unsafe w ⟨b, 0, none⟩ Tryz.underlying269 Tryz.underlying148 hj hsh Tryz.liesPrinter]
  simp only [Result.andThen]
  rw [Oper.upon_value]
  go_wp2
  go_end0
  exact ⟨rfl, rfl⟩
/-- A printer in memory: what it has written, and its variables. -/
structure PrS (N B b : Nat) (vsl : Value) (l : List UInt8) (w : World) : Prop where
  nb : N ≤ b
  bB : b < B
  Bw : B ≤ w.heap.size
  tab : TabN N w
  blk : ∃ p buf, (p = .pointer none ∨ p = .pointer (some ⟨b, 0, none⟩)) ∧ w.heap[b]? = some (.cells #[p, buf, vsl] 166) ∧ w.ownsRow B 5 1 buf l.length (Lib.byteCells l)
abbrev XBB (b B : Nat) : Nat → Prop := fun k => k = b ∨ B ≤ k
theorem PrS.below {N B b : Nat} {vsl : Value} {l : List UInt8} {w w' : World} (h : PrS N B b vsl l w) (hb : Below w.heap.size w w') : PrS N B b vsl l w' := by
  obtain ⟨h1, h2, h3, h4, p, buf, hp, hk, ho⟩ := h
  exact ⟨h1, h2, Nat.le_trans h3 hb.size, h4.below hb, p, buf, hp, (hb.block b (by omega)).trans hk, own_below ho hb⟩
theorem strCells_bytes (s : ByteArray) : Lib.strCells s = Lib.byteCells s.data.toList := rfl
theorem byteCells_app (a b : List UInt8) : Lib.byteCells (a ++ b) = Lib.byteCells a ++ Lib.byteCells b := by unfold Lib.byteCells; rw [List.map_append]
set_option maxHeartbeats 2000000 in
set_option maxRecDepth 100000 in
theorem pwrite_any (N B b : Nat) (vsl : Value) (l : List UInt8) (s : ByteArray) (w : World) (h : PrS N B b vsl l w) (hlen : l.length + s.size ≤ 140737488355328) :
    Calls Tryz.prog 110 #[.pointer (some ⟨b, 0, none⟩), .string s] w fun e w' => e = .returned (.tuple #[.int .i64 s.size, .nilIface]) ∧ PrS N B b vsl (l ++ s.data.toList) w' ∧ Fr (XBB b B) w w' := by
  obtain ⟨i0, hi, hz0, hz1, hz2⟩ := info_parts Tryz.Builder_Extra_169.infoByte
  have HCK : Hid (Calls Tryz.prog 162 #[.pointer (some ⟨b, 0, none⟩)] w fun e w' => e = .returned (.tuple #[]) ∧ (∃ buf, w'.heap[b]? = some (.cells #[.pointer (some ⟨b, 0, none⟩), buf, vsl] 166) ∧ w'.ownsRow B 5 1 buf l.length (Lib.byteCells l)) ∧ Fr (XBB b B) w w') := by
    obtain ⟨h1, h2, h3, h4, p, buf, hp, hk, ho⟩ := h
    rcases hp with rfl | rfl
    · refine (pr_check_fresh b w (blk9 hk 0 _ rfl) (by simp [World.shape?, hk]) (frz9 hk 0)).mono ?_
      rintro e w' ⟨rfl, rfl⟩
      refine ⟨rfl, ⟨buf, ?_, own_set ho hk (by decide) 0 _⟩, (Fr.refl _ _).setX (p := ⟨b, 0, none⟩) (Or.inl rfl) _⟩
      rw [heap_setCell_same w b 0 _ _ _ hk]; rfl
    · refine (pr_check_used b w (blk9 hk 0 _ rfl)).mono ?_
      rintro e w' ⟨rfl, rfl⟩
      exact ⟨rfl, ⟨buf, hk, ho⟩, Fr.refl _ _⟩
  have HP : Hid (PrS N B b vsl l w) := h
  clear h
  go_enter Tryz.func110, Tryz.ntmps110
  go_wp2_with fail
  refine HCK.out.mono ?_
  rintro e w1 ⟨rfl, ⟨v, hbk, hown⟩, hf1⟩
  have c1 : w1.cell? ⟨b, 1, none⟩ = some v := blk9 hbk 1 _ rfl
  have HB1 : Hid (B ≤ w1.heap.size) := Nat.le_trans HP.out.Bw hf1.size
  obtain ⟨av, cv, hv⟩ := own_form hown
  subst hv
  go_wp2_with (at_builtin; refine Lib.wpList_append_own_string _ rfl _ _ 107 9 rfl B 5 i0 Tryz.underlying107 Tryz.underlying9 hi hz0 hz1 hz2 _ _ _ rfl hown s rfl ?c3 ?c4 ?c5 ?_)
  case c3 => unfold maxLen; omega
  case c4 => omega
  case c5 => exact HB1.out
  intro v' w2 hown' hgrow _
  have hlt : b < w1.heap.size := (Array.getElem?_eq_some_iff.1 hbk).1
  have hne : ∀ k, (Value.slice av l.length cv).ownBlock = some k → B ≤ k := fun k hk => (hown.lt k hk).1
  have hbB := HP.out.bB
  have hb2 : w2.heap[b]? = some (.cells #[.pointer (some ⟨b, 0, none⟩), .slice av l.length cv, vsl] 166) := by
    rw [hgrow.block b hlt (fun e => by have := hne b e.symm; omega)]
    exact hbk
  have d1 : w2.cell? ⟨b, 1, none⟩ = some (.slice av l.length cv) := blk9 hb2 1 _ rfl
  have f1 : w2.frozen? ⟨b, 1, none⟩ = false := frz9 hb2 1
  obtain ⟨ao, cap, hv'⟩ := own_form hown'
  subst hv'
  have HE : Hid (PrS N B b vsl (l ++ s.data.toList) (w2.setCell ⟨b, 1, none⟩ (.slice ao (l.length + s.size) cap)) ∧ Fr (XBB b B) w (w2.setCell ⟨b, 1, none⟩ (.slice ao (l.length + s.size) cap))) := by
    have hfr2 : Fr (XBB b B) w (w2.setCell ⟨b, 1, none⟩ (.slice ao (l.length + s.size) cap)) := (hf1.grown hgrow (fun k hk => Or.inl (Or.inr (hne k hk)))).setX (p := ⟨b, 1, none⟩) (Or.inl rfl) _
    have hN : ∀ k, XBB b B k → N ≤ k := fun k hk => by have := HP.out.nb; rcases hk with rfl | hk <;> omega
    refine ⟨⟨HP.out.nb, HP.out.bB, Nat.le_trans HP.out.Bw hfr2.size, HP.out.tab.fr hfr2 hN, .pointer (some ⟨b, 0, none⟩), .slice ao (l.length + s.size) cap, Or.inr rfl, ?_, ?_⟩, hfr2⟩
    · exact (heap_setCell_same w2 b 1 _ _ _ hb2).trans rfl
    · rw [byteCells_app, List.length_append, len_size]
      exact own_set hown' hb2 (by decide) 1 _
  clear hown hown' hgrow hne hf1 hbk hb2
  go_wp2
  go_ret2
  exact ⟨rfl, HE.out.1, HE.out.2⟩

/-- Texts with something between. -/
def joinB (xs : List ByteArray) (sep : List UInt8) : List UInt8 := Lib.join (xs.map (·.data.toList)) sep
set_option maxHeartbeats 400000 in
set_option maxRecDepth 100000 in
theorem pjoin_any (xs : List ByteArray) (v : Value) (sep : ByteArray) (w : World) (hv : SArg w v xs) (hlen : (joinB xs sep.data.toList).length ≤ 140737488355328) (hx : xs.length ≤ 100000) :
    Calls Tryz.prog 229 #[v, .string sep] w fun e w' => e = .returned (.string ⟨(joinB xs sep.data.toList).toArray⟩) ∧ Below w.heap.size w w' := by
  obtain ⟨a, c, rfl, hm, hc⟩ := hv
  cases xs with
  | nil =>
    refine (Tryz.strings_Join_none a c sep w).mono ?_
    rintro e w' ⟨rfl, rfl⟩
    exact ⟨rfl, Below.refl _ _⟩
  | cons x r =>
    obtain ⟨bk, off, rfl, hlt, _⟩ := hc 0 x rfl
    refine Tryz.strings_Join bk off c (x :: r) sep w (fun j y hy => ?_) hlt (by omega) hm.1 hlen
    obtain ⟨bk', off', he, _, h2⟩ := hc j y hy
    cases he
    exact h2
def lineL (xs : List ByteArray) : List UInt8 := joinB xs [32] ++ [59, 10]
set_option maxHeartbeats 800000 in
set_option maxRecDepth 100000 in
theorem pline_any (N B b : Nat) (vsl : Value) (l : List UInt8) (xs : List ByteArray) (v : Value) (w : World) (h : PrS N B b vsl l w) (hv : SArg w v xs) (hx : xs.length ≤ 1000) (hj : (joinB xs [32]).length ≤ 1000000) (hl : l.length ≤ 100000000) :
    Calls Tryz.prog 164 #[.pointer (some ⟨b, 0, none⟩), v] w fun e w' => e = .returned (.tuple #[]) ∧ PrS N B b vsl (l ++ lineL xs) w' ∧ Fr (XBB b B) w w' := by
  have HP : Hid (PrS N B b vsl l w) := h
  have HV : Hid (SArg w v xs) := hv
  have HLS : Hid (l ++ (joinB xs [32]) ++ [59, 10] = l ++ lineL xs) := by show _ = _; unfold lineL; rw [List.append_assoc]
  obtain ⟨av, cv, rfl, _, _⟩ := hv
  have hjc := pjoin_any xs _ ⟨#[32]⟩ w.drew (HV.out.below (Below.refl _ _).drew) (by show (joinB xs [32]).length ≤ _; omega) (by omega)
  obtain ⟨J, hJ⟩ : ∃ J, joinB xs [32] = J := ⟨_, rfl⟩
  have hJ2 : joinB xs (⟨#[32]⟩ : ByteArray).data.toList = J := hJ
  rw [hJ2] at hjc
  rw [hJ] at hj HLS
  clear h hJ hJ2
  go_enter Tryz.func164, Tryz.ntmps164
  go_wp2_with fail
  go_region_held3 (fun _ => True) (trivial)
    (first
      | (go_at_call 229; refine hjc.mono ?_; rintro e w1 ⟨rfl, hb1⟩; have HP1 := (HP.out.below (Below.refl _ _).drew).below hb1)
      | (go_at_call 110; refine (pwrite_any N B b vsl l _ _ HP1 (by show l.length + J.toArray.size ≤ _; simp; omega)).mono ?_; rintro e w2 ⟨rfl, hp2, hf2⟩))
  have HP2 : Hid (PrS N B b vsl (l ++ J) w2) := hp2
  have HF2 : Hid (Fr (XBB b B) w w2) := ((Fr.below (Below.refl _ _).drew).trans (Fr.below hb1)).trans hf2
  clear hjc HP1 hp2 hf2 hb1
  go_wp2_with fail
  refine (pwrite_any N B b vsl (l ++ J) _ _ HP2.out (by show (l ++ J).length + 2 ≤ _; simp; omega)).mono ?_
  rintro e w3 ⟨rfl, hp3, hf3⟩
  have HP3 : Hid (PrS N B b vsl (l ++ lineL xs) w3) := by rw [← HLS.out]; exact hp3
  have HF3 : Hid (Fr (XBB b B) w w3) := HF2.out.trans hf3
  clear hp3 hf3
  go_wp2
  go_end0
  exact ⟨rfl, HP3.out, HF3.out⟩
end Go.Proofs.YtdjbejlbmaiocagGreatDoor
/-
  PLAIN: places within a text, what Best's verdicts are. WALK: ReportAnswers.
-/
namespace Go.Proofs.YtdjbejlbmaiocagGreatDoor
open Go.RowKit

theorem scanF_places (s : ByteArray) : ∀ (f k : Nat) (acc : List Tok), (∀ t ∈ acc, 0 ≤ t.place ∧ t.place ≤ (s.size : Int)) → (∀ t ∈ (scanF f s k acc).1, 0 ≤ t.place ∧ t.place ≤ (s.size : Int)) ∧ (scanF f s k acc).2.1 ≤ s.size
  | 0, _, _, h => ⟨h, Nat.zero_le _⟩
  | f + 1, k, acc, h => by
    unfold scanF
    by_cases h1 : skipTo false s.data.toList k < s.size
    · rw [if_pos h1]
      split
      · refine scanF_places s f _ _ fun t ht => ?_
        rcases List.mem_append.1 ht with ht | ht
        · exact h t ht
        · rw [List.mem_singleton.1 ht]
          unfold tokAt
          split
          · exact ⟨Int.le_refl _, by simp⟩
          · simp only; omega
      · exact ⟨fun t ht => by simp at ht, by simp only; omega⟩
    · rw [if_neg h1]
      exact ⟨h, Nat.zero_le _⟩
theorem headT_places (N : Int) (hN : 0 ≤ N) (l : List Tok) (h : ∀ t ∈ l, 0 ≤ t.place ∧ t.place ≤ N) : 0 ≤ (headT N l).place ∧ (headT N l).place ≤ N := by
  cases l with
  | nil => exact ⟨hN, Int.le_refl _⟩
  | cons t l => exact h t (List.mem_cons_self ..)
theorem parse_place (s : ByteArray) (h4 : ¬ 4000 < s.size) : -1000000 ≤ (parseA s).2.1 ∧ (parseA s).2.1 ≤ 1000000 := by
  rw [← parseR_same]
  have hsc : (∀ t ∈ (scanOf s).1, 0 ≤ t.place ∧ t.place ≤ (s.size : Int)) ∧ (scanOf s).2.1 ≤ s.size := by
    unfold scanOf
    rw [if_neg h4]
    exact scanF_places s _ _ _ (fun t ht => by simp at ht)
  unfold parseR
  split
  · split
    · split
      · simp only; omega
      · simp only; omega
    · have := headT_places (s.size : Int) (by omega) ((scanOf s).1.drop (modelR s.size (scanOf s).1 ⟨0, 0⟩).2.k) (fun t ht => hsc.1 t (List.mem_of_mem_drop ht))
      simp only
      omega
  · simp only
    have := hsc.2
    omega
theorem climb_verdict (m : Mod) (hm : checkM m = 0) (hg : m.goal = 1 ∨ m.goal = 2) : ∀ (N : Nat) (R : Int × List Int × Sk) (b : List Int), roomR m R < N → (R.1 = 1 → Sol m R.2.1) → (R.1 = 1 ∨ R.1 = 2 ∨ R.1 = 3) → ((climbP m R b).verdict = 1 ∨ (climbP m R b).verdict = 2 ∨ (climbP m R b).verdict = 3)
  | 0, R, b, h, _, _ => by omega
  | N + 1, R, b, h, hs, hb => by
    rw [climb_step m hm hg R b hs]
    split
    · rename_i h1
      refine climb_verdict m hm hg N _ _ (by have := climb_room m hm hg R h1 (hs h1); omega) (fun h => (next_found m hm _ h).1) ?_
      obtain ⟨_, _, _, n4, _⟩ := next_sound m hm (fun _ => False) _ (moreSk m R) (Nat.lt_succ_self _) (fun x _ hf => hf.elim)
      exact n4
    · split
      · exact Or.inr (Or.inr rfl)
      · split
        · exact Or.inl rfl
        · exact hb
theorem best_verdict (m : Mod) (hm : checkM m = 0) (fuel : Int) (hf : ¬ (fuel < 0 ∨ 300 < fuel)) : (bestA m fuel).1.verdict = 1 ∨ (bestA m fuel).1.verdict = 2 ∨ (bestA m fuel).1.verdict = 3 := by
  obtain ⟨_, _, _, n4, _⟩ := next_sound m hm (fun _ => False) _ (startSk fuel) (Nat.lt_succ_self _) (fun x _ hf => hf.elim)
  unfold bestA
  by_cases hg : m.goal = 0
  · rw [if_pos hg]
    unfold solveA
    rw [if_pos hm, if_neg hf]
    split
    · exact Or.inr (Or.inl rfl)
    · exact n4
  · rw [if_neg hg, if_pos hm, if_neg hf]
    obtain ⟨_, _, hgo⟩ := goal_var m hm
    have hg2 : m.goal = 1 ∨ m.goal = 2 := by omega
    exact climb_verdict m hm hg2 _ _ _ (Nat.lt_succ_self _) (fun h => (next_found m hm _ h).1) n4
theorem best_in (m : Mod) (hm : checkM m = 0) (fuel : Int) : (∀ x ∈ (bestA m fuel).1.values, -1000 ≤ x ∧ x ≤ 1000) ∧ (bestA m fuel).1.values.length ≤ m.vars.length := by
  have hbv := best_values m hm fuel
  obtain ⟨RX, hX⟩ : ∃ RX, (bestA m fuel).1.values = RX := ⟨_, rfl⟩
  rw [hX] at hbv ⊢
  refine ⟨fun x hx => ?_, ?_⟩
  · rcases hbv with h | h
    · rw [h] at hx; cases hx
    · obtain ⟨i, hi⟩ := List.mem_iff_getElem?.1 hx
      have hil := (List.getElem?_eq_some_iff.1 hi).1
      have h1 : RX.length = m.vars.length := h.1.1
      have h2 := h.1.2 i (by omega)
      have h3 := vars_bounds m hm i (by omega)
      have h4 : valAt RX (i : Int) = x := by unfold valAt; rw [Int.toNat_natCast, List.getD_eq_getElem?_getD, hi]; rfl
      change (varAt m.vars i).lo ≤ valAt RX (i : Int) ∧ valAt RX (i : Int) ≤ (varAt m.vars i).hi at h2
      omega
  · rcases hbv with h | h
    · rw [h]; simp
    · have h1 : RX.length = m.vars.length := h.1.1
      omega

set_option maxHeartbeats 3200000 in
set_option maxRecDepth 100000 in
theorem ranswers_any (N : Nat) (s : ByteArray) (fuel : Int) (w : World) (hs : s.size ≤ maxLen) (hT : TabT w) (hN : TabN N w) (hNw : N ≤ w.heap.size) :
    Calls Tryz.prog 5 #[.string s, .int .i64 fuel] w fun e w' => e = .returned (.bool true) ∧ Below w.heap.size w w' := by
  have HT : Hid (∀ w', Below w.heap.size w w' → TabT w') := fun w' h => hT.below h
  have HN : Hid (∀ w', Below w.heap.size w w' → TabN N w' ∧ N ≤ w'.heap.size) := fun w' h => ⟨hN.below h, Nat.le_trans hNw h.size⟩
  have HS : Hid (s.size ≤ maxLen) := hs
  have HAA : Hid (Calls Tryz.prog 20 #[.string s, .int .i64 fuel] w fun e w' => e = .returned (.tuple #[.string (answerA s fuel).1, .int .i64 (answerA s fuel).2]) ∧ Below w.heap.size w w') := answer_any s hs fuel (parse_place s) w hT hN.1
  obtain ⟨⟨T, E⟩, hR⟩ : ∃ R, answerA s fuel = R := ⟨_, rfl⟩
  rw [hR] at HAA
  unfold answerA at hR
  have HR := (show Hid _ from hR)
  have HPL : Hid (¬ 4000 < s.size → -1000000 ≤ (parseA s).2.1 ∧ (parseA s).2.1 ≤ 1000000) := parse_place s
  clear hR hT hN hNw hs
  go_enter Tryz.func5, Tryz.ntmps5
  go_wp2_with fail
  refine HAA.out.mono ?_
  rintro e w1 ⟨rfl, hb1⟩
  have HB1 : Hid (Below w.heap.size w w1) := hb1
  clear hb1
  go_wp2_with fail
  refine (begun_report _ (HT.out _ HB1.out) (HN.out _ HB1.out).1.1).mono ?_
  rintro e w2 ⟨rfl, hb2⟩
  have HB2 : Hid (Below w.heap.size w w2) := HB1.out.trans (hb2.mono HB1.out.size)
  clear hb2
  go_wp2_with fail
  refine (begun_best _ (HT.out _ HB2.out)).mono ?_
  rintro e w3 ⟨rfl, hb3⟩
  have HB3 : Hid (Below w.heap.size w w3) := HB2.out.trans (hb3.mono HB2.out.size)
  clear hb3
  by_cases h4 : 4000 < s.size
  · have hR := HR.out
    rw [if_pos h4] at hR
    have e1 : T = ⟨#[]⟩ := (congrArg Prod.fst hR).symm
    have e2 : E = 2 := (congrArg Prod.snd hR).symm
    subst e1 e2
    have h4' : decide ((s.size : Int) > 4000) = true := by simp; omega
    clear hR HR
    go_wp2
    go_ret
    exact ⟨rfl, HB3.out⟩
  · have h4' : decide ((s.size : Int) > 4000) = false := by simp; omega
    by_cases hf : fuel < 0 ∨ 300 < fuel
    · have hR := HR.out
      rw [if_neg h4, if_pos hf] at hR
      have e1 : T = ⟨#[]⟩ := (congrArg Prod.fst hR).symm
      have e2 : E = 3 := (congrArg Prod.snd hR).symm
      subst e1 e2
      clear hR HR
      by_cases hf0 : fuel < 0
      · clear hf
        go_wp2
        go_ret
        exact ⟨rfl, HB3.out⟩
      · have hf1 : 300 < fuel := by rcases hf with h | h; exact absurd h hf0; exact h
        clear hf
        go_wp2
        go_ret
        exact ⟨rfl, HB3.out⟩
    · have hR := HR.out
      rw [if_neg h4, if_neg hf] at hR
      have HR2 := (show Hid _ from hR)
      have hf0 : ¬ fuel < 0 := fun h => hf (Or.inl h)
      have hf1 : ¬ 300 < fuel := fun h => hf (Or.inr h)
      have HFF : Hid (¬ (fuel < 0 ∨ 300 < fuel)) := hf
      have hbd := HPL.out h4
      have HPM : Hid ((parseA s).2.2 = 0 → checkM (parseA s).1 = 0) := parse_model s
      obtain ⟨⟨m, at0, er⟩, hp⟩ : ∃ P, parseA s = P := ⟨_, rfl⟩
      have HPA : Hid (parseR s = (m, at0, er)) := (parseR_same s).trans hp
      rw [hp] at HR2 hbd HPM
      simp only at hbd
      clear hR HR hp hf
      go_wp2_with fail
      refine (rparse_any s HS.out _).mono ?_
      rintro e w4 ⟨vs, cs, rfl, hm4, hb4⟩
      rw [HPA.out] at hm4 ⊢
      dsimp only at hm4 ⊢
      have HMA : Hid (∀ w', Below w4.heap.size w4 w' → MArg w' vs cs m) := fun w' h => MArg.below h hm4.marg
      have HB4 : Hid (Below w.heap.size w w4) := HB3.out.trans (hb4.mono HB3.out.size)
      obtain ⟨⟨a1, c1, rfl, _, _⟩, ⟨a2, c2, rfl, _, _⟩⟩ := hm4.marg
      unfold modV
      clear hm4 hb4
      by_cases he : er = 0
      · have hR := HR2.out
        rw [if_pos he] at hR
        have HCM : Hid (checkM m = 0) := HPM.out he
        subst he
        have e1 : E = 0 := (congrArg Prod.snd hR).symm
        have HTT : Hid (T = tellB m (bestA m fuel).1) := (congrArg Prod.fst hR).symm
        subst e1
        clear hR HR2 HPM
        obtain ⟨hin, hlen⟩ := best_in m HCM.out fuel
        have hvd := best_verdict m HCM.out fuel HFF.out
        have HBE : Hid ((bestA m fuel).2 = 0) := best_err m HCM.out fuel HFF.out
        obtain ⟨⟨⟨RV, RX, RP⟩, RE⟩, hB⟩ : ∃ B, bestA m fuel = B := ⟨_, rfl⟩
        have HBA : Hid (bestA m fuel = (⟨RV, RX, RP⟩, RE)) := hB
        rw [hB] at hin hlen hvd HBE HTT
        have hre : RE = 0 := HBE.out
        subst hre
        have HAT : Hid (∀ (Y : World) (vx : Value) (ap : Option Addr) (np cp : Nat), Below w4.heap.size w4 Y → IArg Y vx RX → Calls Tryz.prog 24 #[modV (.slice a1 m.vars.length c1) (.slice a2 m.cons.length c2) m, .agg #[.int .i64 RV, vx, .slice ap np cp]] Y fun e w' => e = .returned (.string T) ∧ Below Y.heap.size Y w') := fun Y vx ap np cp h1 h2 => by
          rw [HTT.out]
          exact atext_any m ⟨RV, RX, RP⟩ hvd (fun x hx => by have := name_short m HCM.out x hx; omega) hlen ((checkM_vars m HCM.out).2.1) hin (fun x hx => itoa_short x (hin x hx)) _ _ vx ap np cp Y (HMA.out _ h1) h2
        clear hB hin hlen hvd
        go_wp2_with fail
        have hbY : Below w4.heap.size w4 (w4.alloc (.cells #[.slice a1 m.vars.length c1, .slice a2 m.cons.length c2, .int .i64 m.goal, .int .i64 m.var] 25)) := below_alloc _ _
        have hblY := heap_alloc_new w4 (.cells #[.slice a1 m.vars.length c1, .slice a2 m.cons.length c2, .int .i64 m.goal, .int .i64 m.var] 25)
        refine (best_any m fuel (.slice a1 m.vars.length c1) (.slice a2 m.cons.length c2) _ (HMA.out _ hbY) (HT.out _ (HB4.out.trans (hbY.mono HB4.out.size)))).mono ?_
        rintro e w5 ⟨vv, pp, rfl, hq, hb5⟩
        rw [HBA.out] at hq ⊢
        dsimp only at hq ⊢
        obtain ⟨⟨ax, cx, rfl⟩, ap, np, cp, rfl⟩ := hq.forms
        have HQ5 : Hid (w5.heap[w4.heap.size]? = some (.cells #[.slice a1 m.vars.length c1, .slice a2 m.cons.length c2, .int .i64 m.goal, .int .i64 m.var] 25)) := (hb5.block _ (by simp)).trans hblY
        have HB45 : Hid (Below w4.heap.size w4 w5) := hbY.trans (hb5.mono (by simp))
        have HX : Hid (∀ Y, Below w5.heap.size w5 Y → IArg Y (.slice ax RX.length cx) RX) := fun Y hY => IArg.below hY (own_ilist hq.val)
        simp only
        clear hb5 hbY hblY hq
        have k0 := blk9 HQ5.out 0 _ rfl
        have k1 := blk9 HQ5.out 1 _ rfl
        have k2 := blk9 HQ5.out 2 _ rfl
        have k3 := blk9 HQ5.out 3 _ rfl
        have kl := (Array.getElem?_eq_some_iff.1 HQ5.out).1
        go_wp2_with fail
        have hbZ : Below w5.heap.size w5 (w5.alloc (.cells #[.int .i64 RV, .slice ax RX.length cx, .slice ap np cp] 29)) := below_alloc _ _
        have hbZ1 := HB45.out.trans (hbZ.mono HB45.out.size)
        have HBZ : Hid (Below w.heap.size w (w5.alloc (.cells #[.int .i64 RV, .slice ax RX.length cx, .slice ap np cp] 29))) := HB4.out.trans (hbZ1.mono HB4.out.size)
        refine (HAT.out _ _ ap np cp hbZ1 (HX.out _ hbZ)).mono ?_
        rintro e w6 ⟨rfl, hb6⟩
        have HB6 : Hid (Below w.heap.size w w6) := HBZ.out.trans (hb6.mono HBZ.out.size)
        clear hb6 hbZ hbZ1
        go_wp2
        go_ret
        exact ⟨rfl, HB6.out⟩
      · have hR := HR2.out
        rw [if_neg he] at hR
        have e1 : E = 0 := (congrArg Prod.snd hR).symm
        have HTT : Hid (T = textB at0) := (congrArg Prod.fst hR).symm
        subst e1
        have he' : (er != 0) = true := by simpa using he
        have HIT : Hid (∀ Y : World, Calls Tryz.prog 23 #[.int .i64 at0] Y fun e w' => e = .returned (.string (itoaB at0)) ∧ Below Y.heap.size Y w') := fun Y => digits_any at0 hbd Y
        have his := itoa_short2 at0 hbd
        obtain ⟨ix, hix⟩ : ∃ ix, itoaB at0 = ix := ⟨_, rfl⟩
        unfold textB at HTT
        rw [hix] at HIT his HTT
        have z1 : ¬ (9223372036854775807 < 5 + ix.size) := by omega
        have z2 : ¬ (9223372036854775807 < 5 + ix.size + 1) := by omega
        clear hR HR2 he hix
        go_wp2_with fail
        refine (HIT.out _).mono ?_
        rintro e w5 ⟨rfl, hb5⟩
        rw [HTT.out]
        have HB5 : Hid (Below w.heap.size w w5) := by
          have h1 := HB4.out.alloc HB4.out.size (.cells #[.slice a1 m.vars.length c1, .slice a2 m.cons.length c2, .int .i64 m.goal, .int .i64 m.var] 25)
          exact h1.trans (hb5.mono h1.size)
        clear hb5
        go_wp2
        go_ret
        exact ⟨rfl, HB5.out⟩
end Go.Proofs.YtdjbejlbmaiocagGreatDoor
