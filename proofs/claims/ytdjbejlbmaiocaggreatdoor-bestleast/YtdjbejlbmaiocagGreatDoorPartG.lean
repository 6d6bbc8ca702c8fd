/-
  PART 7 of what the proof leans on (ExpA, FenL, RowG, RowD, FolL, FolM, FenW, FolF, FolG, FolH).
-/
import Derived.Test.YtdjbejlbmaiocagGreatDoorPartF
import Derived.Lib.SliceRun
import Derived.Deep.Onto
import Derived.Deep.RegionLaw
import Derived.Shelf.RegionOpenPlain
import Derived.KernelRfl
/-
  MEMORY: literals in a row of one's own. WALK: package fence: Lits.
-/
namespace Go.Proofs.YtdjbejlbmaiocagGreatDoor
open Go.RowKit

theorem Tryz.infoLit : (Tryz.prog.info? 88).map (fun i => (i.zero, i.size, i.bytes)) = some (some (.agg #[.int .i64 0, .int .i64 0, .int .i64 0]), 3, 24) := by kernel_rfl
theorem Tryz.underClauseE : Tryz.prog.underlying 38 = some (.slice 88) := by kernel_rfl
def litCs (t : MLit) : List Value := [.int .i64 t.var, .int .i64 t.op, .int .i64 t.n]
def litsCs (l : Cla) : List Value := l.flatMap litCs
theorem litsCs_len (l : Cla) : (litsCs l).length = l.length * 3 := by
  induction l with
  | nil => rfl
  | cons t r ih => unfold litsCs at *; rw [List.flatMap_cons, List.length_append, ih, List.length_cons]; simp [litCs]; omega
theorem litsCs_get (l : Cla) (i : Nat) (t : MLit) (h : l[i]? = some t) : (litsCs l)[i * 3]? = some (.int .i64 t.var) ∧ (litsCs l)[i * 3 + 1]? = some (.int .i64 t.op) ∧ (litsCs l)[i * 3 + 2]? = some (.int .i64 t.n) := by
  induction l generalizing i with
  | nil => cases h
  | cons a r ih =>
    unfold litsCs at *
    rw [List.flatMap_cons]
    have hl : (litCs a).length = 3 := rfl
    cases i with
    | zero => cases h; exact ⟨rfl, rfl, rfl⟩
    | succ i =>
      obtain ⟨h1, h2, h3⟩ := ih i (by simpa using h)
      refine ⟨?_, ?_, ?_⟩
      · rw [List.getElem?_append_right (by rw [hl]; omega), hl, show (i + 1) * 3 - 3 = i * 3 by omega]; exact h1
      · rw [List.getElem?_append_right (by rw [hl]; omega), hl, show (i + 1) * 3 + 1 - 3 = i * 3 + 1 by omega]; exact h2
      · rw [List.getElem?_append_right (by rw [hl]; omega), hl, show (i + 1) * 3 + 2 - 3 = i * 3 + 2 by omega]; exact h3
/-- A clause in a row of one's own. -/
def LOwn (base : Nat) (w : World) (v : Value) (l : Cla) : Prop := w.ownsRow base 88 3 v l.length (litsCs l)
theorem LOwn.arg {base : Nat} {w : World} {v : Value} {l : Cla} (h : LOwn base w v l) : LArg w v l := by
  have h' : w.ownsRow base 88 3 v l.length (litsCs l) := h
  rcases h'.2 with ⟨rfl, hn⟩ | ⟨g, cap, cur, rfl, hg, hh, hc1, hc2, _, _⟩
  · have : l = [] := List.eq_nil_of_length_eq_zero hn
    subst this
    exact ⟨none, 0, rfl, ⟨Nat.le_refl _, Nat.zero_le _⟩, fun i z hz => by simp at hz⟩
  · refine ⟨_, cap, rfl, ⟨hc1, hc2⟩, fun i t ht => ?_⟩
    have hi : i < l.length := (List.getElem?_eq_some_iff.1 ht).1
    obtain ⟨g1, g2, g3⟩ := litsCs_get l i t ht
    exact ⟨g, 0, rfl, (Array.getElem?_eq_some_iff.1 hh).1, by rw [Nat.zero_add, h'.cellAt (i * 3) (by omega)]; exact g1, by rw [Nat.zero_add, h'.cellAt (i * 3 + 1) (by omega)]; exact g2, by rw [Nat.zero_add, h'.cellAt (i * 3 + 2) (by omega)]; exact g3⟩
theorem lit_laid (w : World) (t : MLit) : ∀ (j : Nat) (u : Value), (litCs t)[j]? = some u → (w.alloc (.cells #[.int .i64 t.var, .int .i64 t.op, .int .i64 t.n] 88)).cell? ((⟨w.heap.size, 0, none⟩ : Addr).add j) = some u := by
  intro j u hj
  match j, hj with
  | 0, hj => simp [litCs] at hj; subst hj; simp [Addr.add]
  | 1, hj => simp [litCs] at hj; subst hj; simp [Addr.add]
  | 2, hj => simp [litCs] at hj; subst hj; simp [Addr.add]

set_option maxHeartbeats 1600000 in
set_option maxRecDepth 100000 in
theorem flits_any (vs : List MVar) (hva : VarsAll vs) (p : Nat) (hp : ∀ i, p.testBit i = true → (wholeP vs).testBit i = true) (sv : Value) (w : World) (hv : VArg w sv vs) (hT : TabT w) :
    Calls Tryz.prog 197 #[sv, .int .u64 p] w fun e w' => ∃ x, e = .returned x ∧ LOwn w.heap.size w' x (litsP vs p) ∧ Below w.heap.size w w' := by
  have HVO : Hid (VarsAll vs) := hva
  have HT : Hid (∀ w', Below w.heap.size w w' → TabT w') := fun w' h => hT.below h
  have HP36 : Hid (p < 2 ^ 36) := by
    show p < 2 ^ 36
    apply Nat.lt_pow_two_of_testBit
    intro i hi
    cases hb : p.testBit i
    · rfl
    · have := hp i hb
      unfold wholeP at this
      rw [Nat.testBit_lt_two_pow (Nat.lt_of_lt_of_le (of_lt vs hva.1 _) (Nat.pow_le_pow_right (by omega) hi))] at this
      cases this
  have HPW : Hid (∀ i, p.testBit i = true → (wholeP vs).testBit i = true) := hp
  obtain ⟨a, c, rfl, hm, hr⟩ := hv
  have HV : Hid (∀ (i : Nat) (t : MVar), vs[i]? = some t → t.name.size ≤ maxLen ∧ ∃ b off, a = some ⟨b, off, none⟩ ∧ b < w.heap.size ∧
    w.cell? ⟨b, off + i * 3, none⟩ = some (.string t.name) ∧ w.cell? ⟨b, off + i * 3 + 1, none⟩ = some (.int .i64 t.lo) ∧ w.cell? ⟨b, off + i * 3 + 2, none⟩ = some (.int .i64 t.hi)) := hr
  unfold maxLen at hm
  obtain ⟨hm1, hm⟩ := hm
  have h6 := hva.1.1
  obtain ⟨i0, hi, hz0, hz1, hz2⟩ := info_parts Tryz.infoLit
  clear hr hva hp hT
  go_enter Tryz.func197, Tryz.ntmps197
  go_wp2_with fail
  go_loopw [5, 6] (fun v r wr => ∃ (q : Nat) (done : Cla), r = .int .u64 (q : Int) ∧ LOwn w.heap.size wr v done ∧ Hid (litsP vs p = done ++ litsP vs q) ∧ Hid (q < 2 ^ 36) ∧ Hid (∀ i, q.testBit i = true → p.testBit i = true) ∧ Below w.heap.size w wr) (fun _ r _ => (intOf r).toNat)
  case atStart => exact ⟨p, [], rfl, World.ownsRow_nil _ _ _ _, rfl, HP36, fun _ h => h, Below.refl _ _⟩
  case round =>
    obtain ⟨q, done, rfl, hown, hsp, hq36, hqs, hbw⟩ := hrel
    have HOW : Hid (LOwn w.heap.size wr u5 done) := hown
    have HBW : Hid (Below w.heap.size w wr) := hbw
    obtain ⟨ao, co, rfl⟩ := own_form (show wr.ownsRow _ _ _ _ _ _ from hown)
    clear hown hbw
    by_cases hq0 : q = 0
    · subst hq0
      have HE : Hid (LOwn w.heap.size wr (.slice ao (List.length done) co) (litsP vs p)) := by
        have : litsP vs p = done := by rw [hsp.out]; simp [litsP, bitsL_zero]
        rw [this]; exact HOW.out
      clear hsp hqs
      go_wp2
      go_ret
      exact ⟨_, rfl, HE.out, HBW.out⟩
    · obtain ⟨hst, hk36⟩ := bitsL_step q hq0 hq36.out
      obtain ⟨k, hk⟩ : ∃ k, Lib.ctz 64 q = k := ⟨_, rfl⟩
      have hbits := low_bits q hq0 (by have := hq36.out; omega)
      have hless := low_less q hq0 (by have := hq36.out; omega)
      obtain ⟨q2, hq2⟩ : ∃ q2, q &&& (q - 1) = q2 := ⟨_, rfl⟩
      have HQS : Hid (∀ i, q2.testBit i = true → p.testBit i = true) := fun i hi => by
        rw [← hq2, (hbits i).2.2, Bool.and_eq_true] at hi
        exact hqs.out i hi.1
      have hkb := (hbits k).2.1 hk.symm
      have hkw := HPW.out k (hqs.out k hkb)
      unfold wholeP ofP at hkw
      rw [testBit_of vs HVO.out.1] at hkw
      simp only [Bool.and_eq_true, decide_eq_true_eq] at hkw
      have hkl : k / 6 < vs.length := hkw.1
      have hbn := HVO.out.2 (k / 6) hkl
      obtain ⟨lo, hlo⟩ : ∃ lo, (varAt vs (k / 6)).lo = lo := ⟨_, rfl⟩
      have HN : Hid (litsP vs p = (done ++ [⟨((k / 6 : Nat) : Int), 3, lo + ((k % 6 : Nat) : Int)⟩]) ++ litsP vs q2) := by
        show _ = _
        rw [hsp.out, List.append_assoc]
        congr 1
        unfold litsP
        rw [hst, hk, hq2, List.map_cons, hlo]; rfl
      rw [hk] at hk36
      rw [hq2] at hless
      obtain ⟨_, b, off, hax, hb, _, c1, _⟩ := HV.out (k / 6) _ (var_at hkl)
      subst hax
      have hc1 := (HBW.out.cell (p := ⟨b, off + k / 6 * 3 + 1, none⟩) hb).trans c1
      rw [hlo] at hc1 hbn
      have HK : Hid (Lib.ctz 64 q = k) := hk
      have hdl : done.length ≤ 36 := by
        have h1 := lits_len vs p
        rw [hsp.out, List.length_append] at h1
        omega
      have HQ36 : Hid (q < 2 ^ 36) := hq36.out
      have HQ2 : Hid (q2 < 2 ^ 36) := by have := hq36.out; show _ < _; omega
      have hsub : IntKind.u64.wrap ((q : Int) - 1) = ((q - 1 : Nat) : Int) := by rw [IntKind.wrap_u64]; have := hq36.out; omega
      have hand := bits_and_u64_nat q (q - 1) (by have := hq36.out; omega) (by have := hq36.out; omega)
      rw [hq2] at hand
      have hne : ((q : Int) != 0) = true := by simpa using hq0
      have HLS : Hid (q2 < q) := hless
      have hsm : -100 ≤ lo + ((k % 6 : Nat) : Int) ∧ lo + ((k % 6 : Nat) : Int) ≤ 100 := by omega
      clear hst hbits hqs hq36 hkb hkw hsp hlo hq2 hk c1 hless hq0
      go_wp2_with fail
      refine (tz64_any q (by have := HQ36.out; omega) _ (HT.out _ HBW.out)).mono ?_
      rintro e w1 ⟨rfl, rfl⟩
      rw [HK.out]
      obtain ⟨t, ht⟩ : ∃ t : MLit, t = ⟨(k : Int) / 6, 3, lo + (k : Int) % 6⟩ := ⟨_, rfl⟩
      have hown : w1.ownsRow w.heap.size 88 3 (.slice ao (List.length done) co) (List.length done) (litsCs done) := HOW.out
      have HN2 : Hid (litsP vs p = (done ++ [t]) ++ litsP vs q2) := by show _ = _; rw [ht]; exact HN.out
      have hbs := HBW.out.size
      go_wp2_with (at_builtin; refine wpList_append_own _ rfl _ _ 38 rfl w.heap.size 88 i0 (.agg #[.int .i64 0, .int .i64 0, .int .i64 0]) 3 24 Tryz.underClauseE hi hz0 hz1 hz2 rfl (by decide) _ _ _ rfl (hown.alloc _) ⟨w1.heap.size, 0, none⟩ 1 1 (litCs ⟨(k : Int) / 6, 3, lo + (k : Int) % 6⟩) rfl rfl ?c1 ?c2 ?c3 ?c4 ?c5 ?_)
      case c1 => exact lit_laid w1 ⟨(k : Int) / 6, 3, lo + (k : Int) % 6⟩
      case c2 => intro u hu; simp [litCs] at hu; rcases hu with rfl | rfl | rfl <;> rfl
      case c3 => unfold maxLen; omega
      case c4 => omega
      case c5 => simp; omega
      intro v3 w3 hown3 hgrow _
      have HOW3 : Hid (LOwn w.heap.size w3 v3 (done ++ [t])) := by
        show World.ownsRow _ _ _ _ _ _ _
        unfold litsCs
        rw [List.length_append, List.flatMap_append, ht]
        simpa [litsCs] using hown3
      have HB3 : Hid (Below w.heap.size w w3) := (HBW.out.alloc hbs _).grown hgrow (by simp; omega) (fun g h => (hown.lt g h).1)
      clear hown3 hgrow hown hc1
      go_wp2
      go_roundw
      case rel => exact ⟨q2, done ++ [t], rfl, HOW3.out, HN2, HQ2, HQS, HB3.out⟩
      case measure => simp [intOf]; exact HLS.out
end Go.Proofs.YtdjbejlbmaiocagGreatDoor
/-
  MEMORY: literals are appended to a row of one's own; a clause is cloned.
-/
namespace Go.Proofs.YtdjbejlbmaiocagGreatDoor
open Go.RowKit

theorem append_no_lit (T : TypeId) (hT : Tryz.prog.underlying T = some (.slice 88)) (w : World) (ty : TypeId) (base n c : Nat) (v : Value) (xs : List Value) (hown : w.ownsRow base 88 3 v n xs) :
    (Builtin.append_ #[T, T] ty #[v, .slice none 0 c]).run Tryz.prog w = .ok v w := by
  obtain ⟨i0, hi, hz0, hz1, hz2⟩ := info_parts Tryz.infoLit
  rcases hown.2 with ⟨rfl, rfl⟩ | ⟨g, cap, cur, rfl, _, _, hnc, _⟩
  · simp [Builtin.append_, run_underlying hT, sizeOf, typeInfo, hi, Builtin.lenOf, Builtin.firstCells]
  · simp [Builtin.append_, run_underlying hT, sizeOf, typeInfo, hi, Builtin.lenOf, Builtin.firstCells, hnc, storeCells]
theorem lits_one (l : Cla) : ∀ u ∈ litsCs l, u.oneCell' = true := by
  intro u hu
  obtain ⟨t, _, ht⟩ := List.mem_flatMap.1 hu
  simp [litCs] at ht
  rcases ht with rfl | rfl | rfl <;> rfl
theorem litsCs_back (l : Cla) (j : Nat) (y : Value) (h : (litsCs l)[j]? = some y) : ∃ (i : Nat) (t : MLit), l[i]? = some t ∧ ((j = i * 3 ∧ y = .int .i64 t.var) ∨ (j = i * 3 + 1 ∧ y = .int .i64 t.op) ∨ (j = i * 3 + 2 ∧ y = .int .i64 t.n)) := by
  have hj : j < l.length * 3 := by rw [← litsCs_len]; exact (List.getElem?_eq_some_iff.1 h).1
  have hi : j / 3 < l.length := by omega
  obtain ⟨g0, g1, g2⟩ := litsCs_get l (j / 3) l[j / 3] (by simp [hi])
  refine ⟨j / 3, l[j / 3], by simp [hi], ?_⟩
  rcases (by omega : j = j / 3 * 3 ∨ j = j / 3 * 3 + 1 ∨ j = j / 3 * 3 + 2) with hq | hq | hq
  · rw [← hq, h] at g0; exact Or.inl ⟨hq, Option.some.inj g0⟩
  · rw [← hq, h] at g1; exact Or.inr (Or.inl ⟨hq, Option.some.inj g1⟩)
  · rw [← hq, h] at g2; exact Or.inr (Or.inr ⟨hq, Option.some.inj g2⟩)

/-- Literals are appended, whatever list they lie in. -/
theorem wpList_append_lits (T : TypeId) (hT : Tryz.prog.underlying T = some (.slice 88)) {w : World} {ops : Array Oper} {rest : List Oper} {o : Oper} {a : Act} {Q : Exit → Act → World → Prop} (hgd : o.guard = none) (s x : Operand)
    (ho : o.op = .call { callee := .builtin .append, args := #[s, x], argTypes := #[T, T] }) (base : Nat)
    (v : Value) (xs : Cla) (hs : a.eval s = v) (hown : LOwn base w v xs)
    (u : Value) (l : Cla) (hx : a.eval x = u) (hl : LArg w u l) (hn : xs.length + l.length ≤ 1000) (hbase : base ≤ w.heap.size)
    (h : ∀ v' w', LOwn base w' v' (xs ++ l) → w.grownBy w' v.ownBlock → wpList Tryz.prog ops Q rest (a.put o.dst v') w') : wpList Tryz.prog ops Q (o :: rest) a w := by
  obtain ⟨i0, hi, hz0, hz1, hz2⟩ := info_parts Tryz.infoLit
  obtain ⟨q, c, rfl, hm, hc⟩ := hl
  have hown' : w.ownsRow base 88 3 v xs.length (litsCs xs) := hown
  cases q with
  | none =>
    have hl0 : l = [] := by
      cases l with
      | nil => rfl
      | cons z r => obtain ⟨b, off, hq, _⟩ := hc 0 z rfl; cases hq
    subst hl0
    refine wpList_plain hgd fun K hK => ?_
    have hr := append_no_lit T hT w o.type base xs.length c v _ hown'
    unfold Oper.wp execOp
    simp only [ho, resolve, invoke, builtin, Sem.run_bind, Sem.run_pure, Result.andThen_ok, List.map_toArray, List.map_cons, List.map_nil, hs, hx, List.length_nil, hr]
    exact hK _ _ (h v w (by rw [List.append_nil]; exact hown) ⟨rfl, rfl, rfl, Nat.le_refl _, fun _ _ _ => rfl⟩)
  | some ad =>
    refine wpList_append_own w hgd s x T ho base 88 i0 (.agg #[.int .i64 0, .int .i64 0, .int .i64 0]) 3 24 hT hi hz0 hz1 hz2 rfl (by decide) v xs.length _ hs hown' ad l.length c (litsCs l) hx (litsCs_len l) ?_ (lits_one l) (by unfold maxLen; omega) (by omega) hbase ?_
    · intro j y hy
      obtain ⟨i, t, ht, hcase⟩ := litsCs_back l j y hy
      obtain ⟨b, off, hq, _, c0, c1, c2⟩ := hc i t ht
      cases hq
      rw [add_at]
      rcases hcase with ⟨rfl, rfl⟩ | ⟨rfl, rfl⟩ | ⟨rfl, rfl⟩
      · exact c0
      · rw [← Nat.add_assoc]; exact c1
      · rw [← Nat.add_assoc]; exact c2
    · intro v' w' h1 h2 h3
      refine h v' w' ?_ h2
      show w'.ownsRow _ _ _ _ _ _
      unfold litsCs at *
      rw [List.length_append, List.flatMap_append]
      exact h1
theorem nil_cla (w : World) : LArg w (.slice none 0 0) [] := ⟨none, 0, rfl, ⟨Nat.le_refl _, Nat.zero_le _⟩, fun i z hz => by simp at hz⟩
theorem lit_nil {w : World} {l : Cla} {n c : Nat} (h : LArg w (.slice none n c) l) : l = [] := by
  obtain ⟨a, c2, he, _, hr⟩ := h
  cases l with
  | nil => rfl
  | cons z r =>
    obtain ⟨b, off, hq, _⟩ := hr 0 z rfl
    rw [hq] at he
    cases he
theorem own_lower {base base' : Nat} {w : World} {v : Value} {l : Cla} (hb : base' ≤ base) (h : LOwn base w v l) : LOwn base' w v l := World.ownsRow.mono h hb
theorem own_made_lit (w : World) : LOwn w.heap.size (w.alloc (.cells #[] 88)) (.slice (some ⟨w.heap.size, 0, none⟩) 0 0) [] := World.ownsRow_made w #[] 0 (Nat.le_refl _) (Nat.zero_le _) (by simp)

theorem under_clone_cla : Tryz.prog.underlying 38 = some (.slice 88) := by kernel_rfl
set_option maxHeartbeats 800000 in
set_option maxRecDepth 100000 in
theorem clone_cla (l : Cla) (hl : l.length ≤ 900) (u : Value) (w : World) (hu : LArg w u l) :
    Calls Tryz.prog 257 #[u] w fun e w' => ∃ x, e = .returned x ∧ LOwn w.heap.size w' x l ∧ Below w.heap.size w w' := by
  have HU : Hid (∀ w', Below w.heap.size w w' → LArg w' u l) := fun w' h => LArg.below h hu
  have q22 : ∀ (w : World) (a : Option Addr) (n c n' c' : Nat), (binOp .eql 38 (.slice a n c) (.slice none n' c')).run Tryz.prog w = .ok (.bool a.isNone) w := fun w a n c n' c' => Lib.run_eql_slice_nil w _ _ a n c n' c' under_clone_cla
  obtain ⟨a, c, he, _, _⟩ := id hu
  subst he
  cases a with
  | none =>
    have := lit_nil hu
    subst this
    clear hu HU
    go_enter Tryz.func257, Tryz.ntmps257
    go_wp2
    go_ret
    exact ⟨_, rfl, World.ownsRow_nil _ _ _ _, Below.refl _ _⟩
  | some ad =>
    have HL : Hid (l.length ≤ 900) := hl
    clear hu hl
    go_enter Tryz.func257, Tryz.ntmps257
    go_wp2_with (at_builtin; refine wpList_append_lits 38 under_clone_cla rfl _ _ rfl w.heap.size _ [] rfl (own_made_lit w) _ l rfl (HU.out _ (below_alloc _ _)) ?c1 ?c2 ?_)
    case c1 => have := HL.out; simp; omega
    case c2 => simp
    intro v3 w3 hown3 hgrow
    have HB3 : Hid (Below w.heap.size w w3) := (below_alloc _ _).grown hgrow (by simp) (by intro k hk; simp [Value.ownBlock] at hk; omega)
    have HO3 : Hid (LOwn w.heap.size w3 v3 l) := hown3
    obtain ⟨av, cv, rfl⟩ := own_form (show w3.ownsRow _ _ _ _ _ _ from hown3)
    clear hown3 hgrow
    go_wp2
    go_ret
    exact ⟨_, rfl, HO3.out, HB3.out⟩
theorem under_clone_lits : Tryz.prog.underlying 37 = some (.slice 88) := by kernel_rfl
set_option maxHeartbeats 800000 in
set_option maxRecDepth 100000 in
theorem clone_lits (l : Cla) (hl : l.length ≤ 900) (u : Value) (w : World) (hu : LArg w u l) :
    Calls Tryz.prog 279 #[u] w fun e w' => ∃ x, e = .returned x ∧ LOwn w.heap.size w' x l ∧ Below w.heap.size w w' := by
  have HU : Hid (∀ w', Below w.heap.size w w' → LArg w' u l) := fun w' h => LArg.below h hu
  have q22 : ∀ (w : World) (a : Option Addr) (n c n' c' : Nat), (binOp .eql 37 (.slice a n c) (.slice none n' c')).run Tryz.prog w = .ok (.bool a.isNone) w := fun w a n c n' c' => Lib.run_eql_slice_nil w _ _ a n c n' c' under_clone_lits
  obtain ⟨a, c, he, _, _⟩ := id hu
  subst he
  cases a with
  | none =>
    have := lit_nil hu
    subst this
    clear hu HU
    go_enter Tryz.func279, Tryz.ntmps279
    go_wp2
    go_ret
    exact ⟨_, rfl, World.ownsRow_nil _ _ _ _, Below.refl _ _⟩
  | some ad =>
    have HL : Hid (l.length ≤ 900) := hl
    clear hu hl
    go_enter Tryz.func279, Tryz.ntmps279
    go_wp2_with (at_builtin; refine wpList_append_lits 37 under_clone_lits rfl _ _ rfl w.heap.size _ [] rfl (own_made_lit w) _ l rfl (HU.out _ (below_alloc _ _)) ?c1 ?c2 ?_)
    case c1 => have := HL.out; simp; omega
    case c2 => simp
    intro v3 w3 hown3 hgrow
    have HB3 : Hid (Below w.heap.size w w3) := (below_alloc _ _).grown hgrow (by simp) (by intro k hk; simp [Value.ownBlock] at hk; omega)
    have HO3 : Hid (LOwn w.heap.size w3 v3 l) := hown3
    obtain ⟨av, cv, rfl⟩ := own_form (show w3.ownsRow _ _ _ _ _ _ from hown3)
    clear hown3 hgrow
    go_wp2
    go_ret
    exact ⟨_, rfl, HO3.out, HB3.out⟩
end Go.Proofs.YtdjbejlbmaiocagGreatDoor
/-
  MEMORY: rows of elements of several cells: one is taken out, a row is copied.
-/
namespace Go.Proofs.YtdjbejlbmaiocagGreatDoor
open Go.RowKit

/-- Cells are written one behind the other. -/
def setMany (xs : List Value) : Nat → List Value → List Value
  | _, [] => xs
  | o, v :: r => setMany (xs.set o v) (o + 1) r
theorem setMany_get (j : Nat) : ∀ (vs xs : List Value) (o : Nat), (setMany xs o vs)[j]? = if o ≤ j ∧ j < o + vs.length ∧ j < xs.length then vs[j - o]? else xs[j]?
  | [], xs, o => by
    unfold setMany
    rw [if_neg (by simp; omega)]
  | v :: r, xs, o => by
    unfold setMany
    rw [setMany_get j r]
    by_cases h : o = j
    · subst h
      rw [if_neg (by omega), List.getElem?_set]
      by_cases hl : o < xs.length
      · rw [if_pos rfl, if_pos hl, if_pos ⟨Nat.le_refl _, by simp, hl⟩]; simp
      · rw [if_pos rfl, if_neg hl, if_neg (by omega)]
        rw [List.getElem?_eq_none (by omega)]
    · rw [List.getElem?_set_ne h]
      simp only [List.length_set, List.length_cons]
      by_cases hc : o + 1 ≤ j ∧ j < o + 1 + r.length ∧ j < xs.length
      · rw [if_pos hc, if_pos (by omega), show j - o = (j - (o + 1)) + 1 by omega, List.getElem?_cons_succ]
      · rw [if_neg hc, if_neg (by omega)]
theorem own_setCells {base : Nat} {e : TypeId} {size g n cap : Nat} : ∀ (vs xs : List Value) (o : Nat) (w : World), w.ownsRow base e size (.slice (some ⟨g, 0, none⟩) n cap) n xs → base ≤ g →
    (w.setCells g o vs).ownsRow base e size (.slice (some ⟨g, 0, none⟩) n cap) n (setMany xs o vs) ∧ Below base w (w.setCells g o vs)
  | [], xs, o, w, h, _ => ⟨h, Below.refl _ _⟩
  | v :: r, xs, o, w, h, hg => by
    obtain ⟨h1, h2⟩ := h.stored o v
    obtain ⟨h3, h4⟩ := own_setCells r _ (o + 1) _ h1 hg
    refine ⟨h3, Below.trans ?_ h4⟩
    exact (Below.refl base w).setCell hg v
theorem own_shrink {base : Nat} {e : TypeId} {size g n cap : Nat} {xs : List Value} {w : World} (k : Nat) (hk : k ≤ n) (h : w.ownsRow base e size (.slice (some ⟨g, 0, none⟩) n cap) n xs) : w.ownsRow base e size (.slice (some ⟨g, 0, none⟩) k cap) k (xs.take (k * size)) := by
  have hx := h.1
  have hm : k * size ≤ n * size := Nat.mul_le_mul_right _ hk
  rcases h.2 with ⟨h', _⟩ | ⟨g', cap', cur, h', hb, hg, hnc, hcm, hcs, htake⟩
  · simp at h'
  · simp only [Value.slice.injEq, Option.some.injEq, Addr.mk.injEq, and_true, true_and] at h'
    obtain ⟨rfl, rfl⟩ := h'
    refine ⟨by rw [List.length_take, hx]; omega, .inr ⟨g, cap, cur, rfl, hb, hg, by omega, hcm, hcs, ?_⟩⟩
    rw [← htake, List.take_take]
    congr 1
    omega
theorem flat_len (s : Nat) : ∀ (ch : List (List Value)), (∀ c ∈ ch, c.length = s) → ch.flatten.length = ch.length * s
  | [], _ => by simp
  | c :: r, h => by
    rw [List.flatten_cons, List.length_append, flat_len s r (fun x hx => h x (List.mem_cons_of_mem _ hx)), h c (List.mem_cons_self ..), List.length_cons, Nat.add_mul]
    omega
theorem flat_take (s : Nat) : ∀ (k : Nat) (ch : List (List Value)), (∀ c ∈ ch, c.length = s) → ch.flatten.take (k * s) = (ch.take k).flatten
  | 0, ch, _ => by simp
  | k + 1, [], _ => by simp
  | k + 1, c :: r, h => by
    rw [List.flatten_cons, List.take_succ_cons, List.flatten_cons, ← flat_take s k r (fun x hx => h x (List.mem_cons_of_mem _ hx)), List.take_append, h c (List.mem_cons_self ..), show (k + 1) * s - s = k * s by rw [Nat.add_mul]; omega, List.take_of_length_le]
    rw [h c (List.mem_cons_self ..), Nat.add_mul]; omega
theorem flat_drop (s : Nat) : ∀ (k : Nat) (ch : List (List Value)), (∀ c ∈ ch, c.length = s) → ch.flatten.drop (k * s) = (ch.drop k).flatten
  | 0, ch, _ => by simp
  | k + 1, [], _ => by simp
  | k + 1, c :: r, h => by
    rw [List.flatten_cons, List.drop_succ_cons, ← flat_drop s k r (fun x hx => h x (List.mem_cons_of_mem _ hx)), List.drop_append, h c (List.mem_cons_self ..), show (k + 1) * s - s = k * s by rw [Nat.add_mul]; omega, List.drop_eq_nil_of_le]
    · rfl
    · rw [h c (List.mem_cons_self ..), Nat.add_mul]; omega
/-- What lies there when one is taken out: the others, one behind the other. -/
theorem erased_cells (s : Nat) (ch : List (List Value)) (hs : ∀ c ∈ ch, c.length = s) (k : Nat) (hk : k < ch.length) (z : List Value) :
    (setMany (setMany ch.flatten (k * s) (ch.drop (k + 1)).flatten) ((ch.length - 1) * s) z).take ((ch.length - 1) * s) = (ch.eraseIdx k).flatten := by
  have hl := flat_len s ch hs
  have hd : (ch.drop (k + 1)).flatten.length = (ch.length - (k + 1)) * s := by
    rw [flat_len s _ (fun c hc => hs c (List.mem_of_mem_drop hc)), List.length_drop]
  have ht : (ch.take k).flatten.length = k * s := by
    rw [flat_len s _ (fun c hc => hs c (List.mem_of_mem_take hc)), List.length_take, Nat.min_eq_left (by omega)]
  have e1 : (ch.length - 1) * s = k * s + (ch.length - (k + 1)) * s := by rw [← Nat.add_mul]; congr 1; omega
  have e2 : (ch.length - 1) * s ≤ ch.length * s := Nat.mul_le_mul_right _ (by omega)
  apply List.ext_getElem?
  intro j
  rw [List.eraseIdx_eq_take_drop_succ, List.flatten_append]
  by_cases hj : j < (ch.length - 1) * s
  · rw [List.getElem?_take, if_pos hj, setMany_get, if_neg (by omega), setMany_get]
    by_cases hjk : j < k * s
    · rw [if_neg (by omega), List.getElem?_append_left (by rw [ht]; exact hjk), ← flat_take s k ch hs, List.getElem?_take, if_pos hjk]
    · rw [if_pos ⟨by omega, by rw [hd]; omega, by rw [hl]; omega⟩, List.getElem?_append_right (by rw [ht]; omega), ht]
  · rw [List.getElem?_eq_none (by rw [List.length_take]; omega), List.getElem?_eq_none (by rw [List.length_append, ht, hd]; omega)]
theorem run_clear_one {P : Program} (w : World) (t e ty : TypeId) (z : Value) (zs : List Value) (ht : P.underlying t = some (.slice e)) (hv : ∀ w, (zeroValue e).run P w = .ok z w) (hz : (Builtin.zeroCells z.cells 1).toList = zs) (h1 : ∀ u ∈ zs, u.oneCell' = true) (b o c : Nat)
    (hc : ∀ j, j < zs.length → (w.cell? ⟨b, o + j, none⟩).isSome = true) (hf : ∀ j, j < zs.length → w.frozen? ⟨b, o + j, none⟩ = false) :
    (Builtin.clear_ #[t] ty #[.slice (some ⟨b, o, none⟩) 1 c]).run P w = .ok (.tuple #[]) (w.setCells b o zs) := by
  have hst := run_storeCells_cells (P := P) b o zs 0 w (by simpa using hc) (by simpa using hf) h1
  simp only [Nat.add_zero] at hst
  simp [Builtin.clear_, run_underlying ht, hv, hz, hst]
end Go.Proofs.YtdjbejlbmaiocagGreatDoor
/-
  WALKS: slices.Clone and slices.Delete of one element, over elements of several cells.
-/
namespace Go.Proofs.YtdjbejlbmaiocagGreatDoor
open Go.RowKit

/-- A row of elements, each told by its cells. -/
def EArg (w : World) (v : Value) (ch : List (List Value)) : Prop :=
  ∃ a c, v = .slice a ch.length c ∧ (ch.length ≤ c ∧ c ≤ maxLen) ∧ ∀ (j : Nat) (u : Value), ch.flatten[j]? = some u → ∃ b off, a = some ⟨b, off, none⟩ ∧ b < w.heap.size ∧ w.cell? ⟨b, off + j, none⟩ = some u
theorem EArg.below {w w' : World} {v : Value} {ch : List (List Value)} (hb : Below w.heap.size w w') (h : EArg w v ch) : EArg w' v ch := by
  obtain ⟨a, c, hv, hm, hr⟩ := h
  refine ⟨a, c, hv, hm, fun j u hu => ?_⟩
  obtain ⟨b, off, ha, hlt, hc⟩ := hr j u hu
  exact ⟨b, off, ha, Nat.lt_of_lt_of_le hlt hb.size, (hb.cell (p := ⟨b, off + j, none⟩) hlt).trans hc⟩
theorem own_earg {w : World} {base s : Nat} {e : TypeId} {v : Value} {ch : List (List Value)} (hs : ∀ c ∈ ch, c.length = s) (h : w.ownsRow base e s v ch.length ch.flatten) : EArg w v ch := by
  have hl := flat_len s ch hs
  rcases h.2 with ⟨rfl, hn⟩ | ⟨g, cap, cur, rfl, hg, hh, hc1, hc2, _, _⟩
  · have : ch = [] := List.eq_nil_of_length_eq_zero hn
    subst this
    exact ⟨none, 0, rfl, ⟨Nat.le_refl _, Nat.zero_le _⟩, fun j u hu => by simp at hu⟩
  · refine ⟨_, cap, rfl, ⟨hc1, hc2⟩, fun j u hu => ?_⟩
    have hj := (List.getElem?_eq_some_iff.1 hu).1
    exact ⟨g, 0, rfl, (Array.getElem?_eq_some_iff.1 hh).1, by rw [Nat.zero_add, h.cellAt j (by omega)]; exact hu⟩
theorem Tryz.infoReason : (Tryz.prog.info? 287).map (fun i => (i.zero, i.size, i.bytes)) = some (some (.agg #[.int .i64 0, .int .i64 0, .slice none 0 0, .int .u64 0]), 4, 48) := by kernel_rfl
theorem zero_lit (w : World) : (zeroValue 88).run Tryz.prog w = .ok (.agg #[.int .i64 0, .int .i64 0, .int .i64 0]) w := by
  obtain ⟨i0, hi, hz0, hz1, hz2⟩ := info_parts Tryz.infoLit
  simp [zeroValue, typeInfo, hi, hz0]
theorem zero_reason (w : World) : (zeroValue 287).run Tryz.prog w = .ok (.agg #[.int .i64 0, .int .i64 0, .slice none 0 0, .int .u64 0]) w := by
  obtain ⟨i0, hi, hz0, hz1, hz2⟩ := info_parts Tryz.infoReason
  simp [zeroValue, typeInfo, hi, hz0]
theorem under_reasons : Tryz.prog.underlying 284 = some (.slice 287) := by kernel_rfl

set_option maxHeartbeats 1600000 in
set_option maxRecDepth 100000 in
theorem del_lits (ch : List (List Value)) (hs : ∀ c ∈ ch, c.length = 3) (h1 : ∀ c ∈ ch, ∀ u ∈ c, u.oneCell' = true) (k : Nat) (hk : k < ch.length) (base : Nat) (v : Value) (w : World) (h : w.ownsRow base 88 3 v ch.length ch.flatten) :
    Calls Tryz.prog 280 #[v, .int .i64 k, .int .i64 ((k : Int) + 1)] w fun e w' => ∃ x, e = .returned x ∧ w'.ownsRow base 88 3 x (ch.eraseIdx k).length (ch.eraseIdx k).flatten ∧ Below base w w' := by
  obtain ⟨i0, hi0, hz0, hz1, hz2⟩ := info_parts Tryz.infoLit
  have hl := flat_len 3 ch hs
  have hEL : (ch.eraseIdx k).length = ch.length - 1 := List.length_eraseIdx_of_lt hk
  rcases h.2 with ⟨rfl, hn⟩ | ⟨g, cap, cur, rfl, hg, hh, hc1, hc2, _, _⟩
  · omega
  obtain ⟨n, hn⟩ : ∃ n, ch.length = n + 1 := ⟨ch.length - 1, by omega⟩
  have hED := erased_cells 3 ch hs k hk [.int .i64 0, .int .i64 0, .int .i64 0]
  obtain ⟨news, hnews⟩ : ∃ news, (ch.drop (k + 1)).flatten = news := ⟨_, rfl⟩
  have hnl : news.length = (n - k) * 3 := by
    rw [← hnews, flat_len 3 _ (fun c hc => hs c (List.mem_of_mem_drop hc)), List.length_drop, hn]; congr 1; omega
  have hn1 : ∀ u ∈ news, u.oneCell' = true := by
    intro u hu
    rw [← hnews] at hu
    obtain ⟨c, hc, hu⟩ := List.mem_flatten.1 hu
    exact h1 c (List.mem_of_mem_drop hc) u hu
  rw [hn] at h hEL hED
  rw [hnews, show n + 1 - 1 = n by omega] at hED
  rw [show n + 1 - 1 = n by omega] at hEL
  have HD : Hid (w.drew.ownsRow base 88 3 (.slice (some ⟨g, 0, none⟩) (n + 1) cap) (n + 1) ch.flatten) := h
  obtain ⟨hs1, hb1⟩ := own_setCells (base := base) news ch.flatten (k * 3) w.drew HD.out hg
  obtain ⟨W1, hW1⟩ : ∃ W1, W1 = w.drew.setCells g (k * 3) news := ⟨_, rfl⟩
  rw [← hW1] at hs1 hb1
  have HW : Hid (W1 = w.drew.setCells g (k * 3) news) := hW1
  have HS1 : Hid (W1.ownsRow base 88 3 (.slice (some ⟨g, 0, none⟩) (n + 1) cap) (n + 1) (setMany ch.flatten (k * 3) news)) := hs1
  obtain ⟨hs2, hb2⟩ := own_setCells (base := base) [.int .i64 0, .int .i64 0, .int .i64 0] _ (n * 3) W1 hs1 hg
  have HFIN : Hid ((W1.setCells g (n * 3) [.int .i64 0, .int .i64 0, .int .i64 0]).ownsRow base 88 3 (.slice (some ⟨g, 0, none⟩) n cap) (ch.eraseIdx k).length (ch.eraseIdx k).flatten) := by
    show World.ownsRow _ _ _ _ _ _ _
    rw [hEL, ← hED]
    exact own_shrink n (by omega) hs2
  have HBF : Hid (Below base w (W1.setCells g (n * 3) [.int .i64 0, .int .i64 0, .int .i64 0])) := ((Below.refl base w).drew).trans (hb1.trans hb2)
  have hmk : k * 3 ≤ n * 3 := Nat.mul_le_mul_right _ (by omega)
  have hcl : ∀ ty, (Builtin.clear_ #[37] ty #[.slice (some ⟨g, n * 3, none⟩) 1 (cap - n)]).run Tryz.prog W1 = .ok (.tuple #[]) (W1.setCells g (n * 3) [.int .i64 0, .int .i64 0, .int .i64 0]) :=
    fun ty => run_clear_one W1 _ _ ty _ [.int .i64 0, .int .i64 0, .int .i64 0] under_clone_lits zero_lit (by kernel_rfl) (by intro u hu; simp at hu; rcases hu with rfl | rfl | rfl | rfl <;> rfl) g (n * 3) _ (fun j hj => by
      have hjj : n * 3 + j < (n + 1) * 3 := by simp at hj; omega
      rw [HS1.out.cellAt _ hjj]
      have : n * 3 + j < (setMany ch.flatten (k * 3) news).length := by rw [HS1.out.1]; exact hjj
      rw [List.getElem?_eq_getElem this]; rfl) (fun j hj => HS1.out.frozenAt _)
  have s1 : Hid (news.length = (n - k) * 3) := hnl
  have s2 : Hid (∀ u ∈ news, u.oneCell' = true) := hn1
  have s3 : Hid (∀ t, t < news.length → (w.drew.cell? ⟨g, 0 + k * 3 + t, none⟩).isSome = true ∧ w.drew.frozen? ⟨g, 0 + k * 3 + t, none⟩ = false) := by
    intro t ht
    rw [hnl] at ht
    have e0 : (n - k) * 3 + k * 3 = n * 3 := by rw [← Nat.add_mul]; congr 1; omega
    have htt : k * 3 + t < (n + 1) * 3 := by rw [Nat.add_mul]; omega
    rw [Nat.zero_add, HD.out.cellAt _ htt, HD.out.frozenAt]
    have : k * 3 + t < ch.flatten.length := by rw [HD.out.1]; exact htt
    rw [List.getElem?_eq_getElem this]
    exact ⟨rfl, rfl⟩
  obtain ⟨A, hA, hsrc⟩ : ∃ A : Addr, (if cap = k + 1 then some (⟨g, 0, none⟩ : Addr) else some ⟨g, (k + 1) * 3, none⟩) = some A ∧ Hid (∀ t u, news[t]? = some u → w.drew.cell? (A.add t) = some u) := by
    by_cases hck : cap = k + 1
    · refine ⟨⟨g, 0, none⟩, by simp [hck], fun t u hu => ?_⟩
      have h0 : news.length = 0 := by rw [hnl, show n - k = 0 by omega, Nat.zero_mul]
      rw [List.length_eq_zero_iff.1 h0] at hu
      simp at hu
    · refine ⟨⟨g, (k + 1) * 3, none⟩, by simp [hck], fun t u hu => ?_⟩
      have ht := (List.getElem?_eq_some_iff.1 hu).1
      rw [hnl] at ht
      have e0 : (n - k) * 3 + k * 3 = n * 3 := by rw [← Nat.add_mul]; congr 1; omega
      have htt : (k + 1) * 3 + t < (n + 1) * 3 := by rw [Nat.add_mul, Nat.add_mul]; omega
      rw [add_at, HD.out.cellAt _ htt]
      rw [← hnews, ← flat_drop 3 _ ch hs, List.getElem?_drop] at hu
      exact hu
  have hkc : k + 1 ≤ cap := by omega
  unfold maxLen at hc2
  rw [hn]
  have hkn : k ≤ n := by omega
  have hcn : n + 1 ≤ cap := by omega
  clear hc1 hW1 hs1 hb1 hs2 hb2 hED hnews hnl hn1 h1 hs hl h hEL hh hz0 hz2 hn hk hmk
  go_enter Tryz.func280, Tryz.ntmps280
  have hkk : k + (n - k) = n := by omega
  have hlen : n + 1 - (k + 1) = n - k := by omega
  have hroom : k + (n - k) ≤ cap := by omega
  have hic : k ≤ cap := by omega
  have hk0 : (0 : Int) ≤ (k : Int) + 1 := by omega
  go_wp2_with fail
  go_region_law (refine step_append_room rfl (.tmp 22) (.tmp 25) 37 rfl 88 i0 3 under_clone_lits hi0 hz1 g 0 k cap (by simp [Act.eval, Act.put]) A (n - k) (cap - (k + 1)) news (by simp [Act.eval, Act.put]) s1.out hsrc.out s2.out hroom s3.out ?_; rw [Nat.zero_add, ← HW.out, hkk])
  have hne : ¬ cap = n := by omega
  have hn0 : (0 : Int) ≤ (n : Int) + 1 := by omega
  have hnc : n ≤ cap := by omega
  go_wp2
  go_ret
  exact ⟨_, rfl, HFIN.out, HBF.out⟩
set_option maxHeartbeats 1600000 in
set_option maxRecDepth 100000 in
theorem del_reasons (ch : List (List Value)) (hs : ∀ c ∈ ch, c.length = 4) (h1 : ∀ c ∈ ch, ∀ u ∈ c, u.oneCell' = true) (k : Nat) (hk : k < ch.length) (base : Nat) (v : Value) (w : World) (h : w.ownsRow base 287 4 v ch.length ch.flatten) :
    Calls Tryz.prog 282 #[v, .int .i64 k, .int .i64 ((k : Int) + 1)] w fun e w' => ∃ x, e = .returned x ∧ w'.ownsRow base 287 4 x (ch.eraseIdx k).length (ch.eraseIdx k).flatten ∧ Below base w w' := by
  obtain ⟨i0, hi0, hz0, hz1, hz2⟩ := info_parts Tryz.infoReason
  have hl := flat_len 4 ch hs
  have hEL : (ch.eraseIdx k).length = ch.length - 1 := List.length_eraseIdx_of_lt hk
  rcases h.2 with ⟨rfl, hn⟩ | ⟨g, cap, cur, rfl, hg, hh, hc1, hc2, _, _⟩
  · omega
  obtain ⟨n, hn⟩ : ∃ n, ch.length = n + 1 := ⟨ch.length - 1, by omega⟩
  have hED := erased_cells 4 ch hs k hk [.int .i64 0, .int .i64 0, .slice none 0 0, .int .u64 0]
  obtain ⟨news, hnews⟩ : ∃ news, (ch.drop (k + 1)).flatten = news := ⟨_, rfl⟩
  have hnl : news.length = (n - k) * 4 := by
    rw [← hnews, flat_len 4 _ (fun c hc => hs c (List.mem_of_mem_drop hc)), List.length_drop, hn]; congr 1; omega
  have hn1 : ∀ u ∈ news, u.oneCell' = true := by
    intro u hu
    rw [← hnews] at hu
    obtain ⟨c, hc, hu⟩ := List.mem_flatten.1 hu
    exact h1 c (List.mem_of_mem_drop hc) u hu
  rw [hn] at h hEL hED
  rw [hnews, show n + 1 - 1 = n by omega] at hED
  rw [show n + 1 - 1 = n by omega] at hEL
  have HD : Hid (w.drew.ownsRow base 287 4 (.slice (some ⟨g, 0, none⟩) (n + 1) cap) (n + 1) ch.flatten) := h
  obtain ⟨hs1, hb1⟩ := own_setCells (base := base) news ch.flatten (k * 4) w.drew HD.out hg
  obtain ⟨W1, hW1⟩ : ∃ W1, W1 = w.drew.setCells g (k * 4) news := ⟨_, rfl⟩
  rw [← hW1] at hs1 hb1
  have HW : Hid (W1 = w.drew.setCells g (k * 4) news) := hW1
  have HS1 : Hid (W1.ownsRow base 287 4 (.slice (some ⟨g, 0, none⟩) (n + 1) cap) (n + 1) (setMany ch.flatten (k * 4) news)) := hs1
  obtain ⟨hs2, hb2⟩ := own_setCells (base := base) [.int .i64 0, .int .i64 0, .slice none 0 0, .int .u64 0] _ (n * 4) W1 hs1 hg
  have HFIN : Hid ((W1.setCells g (n * 4) [.int .i64 0, .int .i64 0, .slice none 0 0, .int .u64 0]).ownsRow base 287 4 (.slice (some ⟨g, 0, none⟩) n cap) (ch.eraseIdx k).length (ch.eraseIdx k).flatten) := by
    show World.ownsRow _ _ _ _ _ _ _
    rw [hEL, ← hED]
    exact own_shrink n (by omega) hs2
  have HBF : Hid (Below base w (W1.setCells g (n * 4) [.int .i64 0, .int .i64 0, .slice none 0 0, .int .u64 0])) := ((Below.refl base w).drew).trans (hb1.trans hb2)
  have hmk : k * 4 ≤ n * 4 := Nat.mul_le_mul_right _ (by omega)
  have hcl : ∀ ty, (Builtin.clear_ #[284] ty #[.slice (some ⟨g, n * 4, none⟩) 1 (cap - n)]).run Tryz.prog W1 = .ok (.tuple #[]) (W1.setCells g (n * 4) [.int .i64 0, .int .i64 0, .slice none 0 0, .int .u64 0]) :=
    fun ty => run_clear_one W1 _ _ ty _ [.int .i64 0, .int .i64 0, .slice none 0 0, .int .u64 0] under_reasons zero_reason (by kernel_rfl) (by intro u hu; simp at hu; rcases hu with rfl | rfl | rfl | rfl <;> rfl) g (n * 4) _ (fun j hj => by
      have hjj : n * 4 + j < (n + 1) * 4 := by simp at hj; omega
      rw [HS1.out.cellAt _ hjj]
      have : n * 4 + j < (setMany ch.flatten (k * 4) news).length := by rw [HS1.out.1]; exact hjj
      rw [List.getElem?_eq_getElem this]; rfl) (fun j hj => HS1.out.frozenAt _)
  have s1 : Hid (news.length = (n - k) * 4) := hnl
  have s2 : Hid (∀ u ∈ news, u.oneCell' = true) := hn1
  have s3 : Hid (∀ t, t < news.length → (w.drew.cell? ⟨g, 0 + k * 4 + t, none⟩).isSome = true ∧ w.drew.frozen? ⟨g, 0 + k * 4 + t, none⟩ = false) := by
    intro t ht
    rw [hnl] at ht
    have e0 : (n - k) * 4 + k * 4 = n * 4 := by rw [← Nat.add_mul]; congr 1; omega
    have htt : k * 4 + t < (n + 1) * 4 := by rw [Nat.add_mul]; omega
    rw [Nat.zero_add, HD.out.cellAt _ htt, HD.out.frozenAt]
    have : k * 4 + t < ch.flatten.length := by rw [HD.out.1]; exact htt
    rw [List.getElem?_eq_getElem this]
    exact ⟨rfl, rfl⟩
  obtain ⟨A, hA, hsrc⟩ : ∃ A : Addr, (if cap = k + 1 then some (⟨g, 0, none⟩ : Addr) else some ⟨g, (k + 1) * 4, none⟩) = some A ∧ Hid (∀ t u, news[t]? = some u → w.drew.cell? (A.add t) = some u) := by
    by_cases hck : cap = k + 1
    · refine ⟨⟨g, 0, none⟩, by simp [hck], fun t u hu => ?_⟩
      have h0 : news.length = 0 := by rw [hnl, show n - k = 0 by omega, Nat.zero_mul]
      rw [List.length_eq_zero_iff.1 h0] at hu
      simp at hu
    · refine ⟨⟨g, (k + 1) * 4, none⟩, by simp [hck], fun t u hu => ?_⟩
      have ht := (List.getElem?_eq_some_iff.1 hu).1
      rw [hnl] at ht
      have e0 : (n - k) * 4 + k * 4 = n * 4 := by rw [← Nat.add_mul]; congr 1; omega
      have htt : (k + 1) * 4 + t < (n + 1) * 4 := by rw [Nat.add_mul, Nat.add_mul]; omega
      rw [add_at, HD.out.cellAt _ htt]
      rw [← hnews, ← flat_drop 4 _ ch hs, List.getElem?_drop] at hu
      exact hu
  have hkc : k + 1 ≤ cap := by omega
  unfold maxLen at hc2
  rw [hn]
  have hkn : k ≤ n := by omega
  have hcn : n + 1 ≤ cap := by omega
  clear hc1 hW1 hs1 hb1 hs2 hb2 hED hnews hnl hn1 h1 hs hl h hEL hh hz0 hz2 hn hk hmk
  go_enter Tryz.func282, Tryz.ntmps282
  have hkk : k + (n - k) = n := by omega
  have hlen : n + 1 - (k + 1) = n - k := by omega
  have hroom : k + (n - k) ≤ cap := by omega
  have hic : k ≤ cap := by omega
  have hk0 : (0 : Int) ≤ (k : Int) + 1 := by omega
  go_wp2_with fail
  go_region_law (refine step_append_room rfl (.tmp 22) (.tmp 25) 284 rfl 287 i0 4 under_reasons hi0 hz1 g 0 k cap (by simp [Act.eval, Act.put]) A (n - k) (cap - (k + 1)) news (by simp [Act.eval, Act.put]) s1.out hsrc.out s2.out hroom s3.out ?_; rw [Nat.zero_add, ← HW.out, hkk])
  have hne : ¬ cap = n := by omega
  have hn0 : (0 : Int) ≤ (n : Int) + 1 := by omega
  have hnc : n ≤ cap := by omega
  go_wp2
  go_ret
  exact ⟨_, rfl, HFIN.out, HBF.out⟩
theorem append_no_reason (w : World) (ty : TypeId) (base n c : Nat) (v : Value) (xs : List Value) (hown : w.ownsRow base 287 4 v n xs) :
    (Builtin.append_ #[284, 284] ty #[v, .slice none 0 c]).run Tryz.prog w = .ok v w := by
  obtain ⟨i0, hi, hz0, hz1, hz2⟩ := info_parts Tryz.infoReason
  rcases hown.2 with ⟨rfl, rfl⟩ | ⟨g, cap, cur, rfl, _, _, hnc, _⟩
  · simp [Builtin.append_, run_underlying under_reasons, sizeOf, typeInfo, hi, Builtin.lenOf, Builtin.firstCells]
  · simp [Builtin.append_, run_underlying under_reasons, sizeOf, typeInfo, hi, Builtin.lenOf, Builtin.firstCells, hnc, storeCells]
theorem earg_nil {w : World} {ch : List (List Value)} {s n c : Nat} (hs : ∀ x ∈ ch, x.length = s) (h0 : 0 < s) (h : EArg w (.slice none n c) ch) : ch = [] := by
  obtain ⟨a, c2, he, _, hr⟩ := h
  cases ch with
  | nil => rfl
  | cons z r =>
    have hz := hs z (List.mem_cons_self ..)
    cases z with
    | nil => simp at hz; omega
    | cons y t =>
      obtain ⟨b, off, hq, _⟩ := hr 0 y rfl
      rw [hq] at he
      cases he
set_option maxHeartbeats 800000 in
set_option maxRecDepth 100000 in
theorem clone_reasons (ch : List (List Value)) (hs : ∀ c ∈ ch, c.length = 4) (h1 : ∀ c ∈ ch, ∀ u ∈ c, u.oneCell' = true) (hl : ch.length ≤ 9000) (u : Value) (w : World) (hu : EArg w u ch) :
    Calls Tryz.prog 281 #[u] w fun e w' => ∃ x, e = .returned x ∧ w'.ownsRow w.heap.size 287 4 x ch.length ch.flatten ∧ Below w.heap.size w w' := by
  obtain ⟨i0, hi0, hz0, hz1, hz2⟩ := info_parts Tryz.infoReason
  have hfl := flat_len 4 ch hs
  have HU : Hid (∀ w', Below w.heap.size w w' → EArg w' u ch) := fun w' h => EArg.below h hu
  have q22 : ∀ (w : World) (a : Option Addr) (n c n' c' : Nat), (binOp .eql 284 (.slice a n c) (.slice none n' c')).run Tryz.prog w = .ok (.bool a.isNone) w := fun w a n c n' c' => Lib.run_eql_slice_nil w _ _ a n c n' c' under_reasons
  obtain ⟨a, c, he, hm, hr⟩ := id hu
  subst he
  cases a with
  | none =>
    have := earg_nil hs (by omega) hu
    subst this
    clear hu HU
    go_enter Tryz.func281, Tryz.ntmps281
    go_wp2
    go_ret
    exact ⟨_, rfl, World.ownsRow_nil _ _ _ _, Below.refl _ _⟩
  | some ad =>
    have HL : Hid (ch.length ≤ 9000) := hl
    have HC : Hid (∀ (j : Nat) (u : Value), ch.flatten[j]? = some u → (w.alloc (.cells #[] 287)).cell? (ad.add j) = some u) := fun j y hy => by
      obtain ⟨b, off, hq, hlt, hc⟩ := hr j y hy
      cases hq
      rw [add_at]
      exact ((below_alloc w _).cell (p := ⟨b, off + j, none⟩) hlt).trans hc
    have H1 : Hid (∀ u ∈ ch.flatten, u.oneCell' = true) := fun u hu => by
      obtain ⟨c, hc, hu⟩ := List.mem_flatten.1 hu
      exact h1 c hc u hu
    have HFL : Hid (ch.flatten.length = ch.length * 4) := hfl
    have HM0 : Hid ((w.alloc (.cells #[] 287)).ownsRow w.heap.size 287 4 (.slice (some ⟨w.heap.size, 0, none⟩) 0 0) 0 []) := World.ownsRow_made w #[] 0 (Nat.le_refl _) (Nat.zero_le _) (by simp)
    clear hu hl hs h1 hr hm hfl
    go_enter Tryz.func281, Tryz.ntmps281
    go_wp2_with (at_builtin; refine wpList_append_own _ rfl _ _ 284 rfl w.heap.size 287 i0 (.agg #[.int .i64 0, .int .i64 0, .slice none 0 0, .int .u64 0]) 4 48 under_reasons hi0 hz0 hz1 hz2 rfl (by decide) _ _ _ rfl HM0.out ad ch.length c ch.flatten rfl HFL.out HC.out H1.out ?c1 ?c2 ?c3 ?_)
    case c1 => have := HL.out; unfold maxLen; omega
    case c2 => have := HL.out; omega
    case c3 => simp
    intro v3 w3 hown3 hgrow _
    have HB3 : Hid (Below w.heap.size w w3) := (below_alloc _ _).grown hgrow (by simp) (by intro k hk; simp [Value.ownBlock] at hk; omega)
    have HO3 : Hid (w3.ownsRow w.heap.size 287 4 v3 ch.length ch.flatten) := by show World.ownsRow _ _ _ _ _ _ _; simpa using hown3
    obtain ⟨av, cv, rfl⟩ := own_form hown3
    clear hown3 hgrow
    go_wp2
    go_ret
    exact ⟨_, by simp, HO3.out, HB3.out⟩
end Go.Proofs.YtdjbejlbmaiocagGreatDoor
/-
  WALKS: package follow: the least of a list that is enough, of literals and of reasons.
-/
namespace Go.Proofs.YtdjbejlbmaiocagGreatDoor
open Go.RowKit

theorem erase_map {α β : Type} (f : α → β) (l : List α) (k : Nat) : (l.map f).eraseIdx k = (l.eraseIdx k).map f := by
  rw [List.eraseIdx_eq_take_drop_succ, List.eraseIdx_eq_take_drop_succ, List.map_append, List.map_take, List.map_drop]
theorem lits_flat (l : Cla) : (l.map litCs).flatten = litsCs l := by unfold litsCs; rw [List.flatMap]
theorem lits_wide (l : Cla) : ∀ c ∈ l.map litCs, c.length = 3 := by
  intro c hc
  obtain ⟨t, _, rfl⟩ := List.mem_map.1 hc
  rfl
theorem lits_single (l : Cla) : ∀ c ∈ l.map litCs, ∀ u ∈ c, u.oneCell' = true := by
  intro c hc u hu
  obtain ⟨t, _, rfl⟩ := List.mem_map.1 hc
  simp [litCs] at hu
  rcases hu with rfl | rfl | rfl <;> rfl
theorem lown_e {base : Nat} {w : World} {v : Value} {l : Cla} (h : LOwn base w v l) : w.ownsRow base 88 3 v (l.map litCs).length (l.map litCs).flatten := by
  rw [List.length_map, lits_flat]; exact h
theorem e_lown {base : Nat} {w : World} {v : Value} {l : Cla} (h : w.ownsRow base 88 3 v (l.map litCs).length (l.map litCs).flatten) : LOwn base w v l := by
  rw [List.length_map, lits_flat] at h; exact h
/-- A closure that says whether literals are enough; it leaves alone what is old. -/
def ClosL2 (F : Nat) (caps : Array Value) (enough : Cla → Bool) (n : Nat) (w : World) : Prop :=
  (∀ (args : Array Value) (w' : World), Sem.run Tryz.prog (callFunc F args) w' = .ok (.enter F args) w') ∧
  ∀ (c : Cla) (v : Value) (w' : World), c.length ≤ n → Below w.heap.size w w' → LArg w' v c → Calls Tryz.prog F (#[v] ++ caps) w' fun e w'' => e = .returned (.bool (enough c)) ∧ Below w'.heap.size w' w''

theorem del_lit (l : Cla) (k : Nat) (hk : k < l.length) (base : Nat) (v : Value) (w : World) (h : LOwn base w v l) :
    Calls Tryz.prog 280 #[v, .int .i64 k, .int .i64 ((k : Int) + 1)] w fun e w' => ∃ x, e = .returned x ∧ LOwn base w' x (l.eraseIdx k) ∧ Below base w w' := by
  refine (del_lits (l.map litCs) (lits_wide l) (lits_single l) k (by rw [List.length_map]; exact hk) base v w (lown_e h)).mono ?_
  rintro e w' ⟨x, rfl, hx, hb⟩
  rw [erase_map] at hx
  exact ⟨x, rfl, e_lown hx, hb⟩
theorem least_step {α : Type} (enough : List α → Bool) (k : Nat) (out : List α) : leastL enough (k + 1) out = leastL enough k (if enough (out.eraseIdx k) then out.eraseIdx k else out) := rfl

set_option maxHeartbeats 1600000 in
set_option maxRecDepth 100000 in
theorem least_lits (F : Nat) (caps : Array Value) (enough : Cla → Bool) (l : Cla) (hl : l.length ≤ 900) (v : Value) (w : World) (hv : LArg w v l) (hF : ClosL2 F caps enough l.length w) :
    Calls Tryz.prog 252 #[v, .func (.func F) #[] caps] w fun e w' => ∃ x, e = .returned x ∧ LOwn w.heap.size w' x (leastL enough l.length l) ∧ Below w.heap.size w w' := by
  have HV : Hid (LArg w v l) := hv
  have HL : Hid (l.length ≤ 900) := hl
  have HF : Hid (ClosL2 F caps enough l.length w) := hF
  obtain ⟨R, hR⟩ : ∃ R, leastL enough l.length l = R := ⟨_, rfl⟩
  have HR : Hid (R = leastL enough l.length l) := hR.symm
  rw [hR]
  obtain ⟨a, c, rfl, _, _⟩ := hv
  clear hF hR
  go_enter Tryz.func252, Tryz.ntmps252
  go_wp2_with fail
  refine (clone_lits l HL.out _ _ HV.out).mono ?_
  rintro e w1 ⟨x, rfl, hx, hb1⟩
  have HX : Hid (LOwn w.heap.size w1 x l) := hx
  have HB1 : Hid (Below w.heap.size w w1) := hb1
  obtain ⟨ax, cx, rfl⟩ := own_form (show w1.ownsRow _ _ _ _ _ _ from hx)
  clear hx hb1
  go_wp2_with fail
  go_loopw [5, 6] (fun o i wr => ∃ (out : Cla) (k : Nat), i = .int .i64 ((k : Int) - 1) ∧ k ≤ out.length ∧ Hid (out.length ≤ l.length) ∧ LOwn w.heap.size wr o out ∧ Hid (R = leastL enough k out) ∧ Below w.heap.size w wr) (fun _ i _ => (intOf i + 1).toNat)
  case atStart => exact ⟨l, l.length, rfl, Nat.le_refl _, Nat.le_refl _, HX.out, HR, HB1.out⟩
  case round =>
    obtain ⟨out, k, rfl, hk, hlo, ho, hrd, hbw⟩ := hrel
    have HO : Hid (LOwn w.heap.size wr u5 out) := ho
    have HBW : Hid (Below w.heap.size w wr) := hbw
    obtain ⟨ao, co, rfl⟩ := own_form (show wr.ownsRow _ _ _ _ _ _ from ho)
    clear ho hbw
    cases k with
    | zero =>
      have HE : Hid (R = out) := hrd.out
      clear hrd
      go_wp2
      go_ret
      exact ⟨_, rfl, by rw [HE.out]; exact HO.out, HBW.out⟩
    | succ k =>
      have hke : ((k + 1 : Nat) : Int) - 1 = (k : Int) := by omega
      rw [hke]
      have HST : Hid (R = leastL enough k (if enough (out.eraseIdx k) then out.eraseIdx k else out)) := hrd.out
      have HLO : Hid (out.length ≤ 900) := Nat.le_trans hlo.out HL.out
      have HEL : Hid ((out.eraseIdx k).length = out.length - 1) := List.length_eraseIdx_of_lt (by omega)
      have hk9 : k + 1 ≤ 900 := Nat.le_trans hk HLO.out
      clear hrd hke
      go_wp2_with fail
      refine (clone_lits out HLO.out _ _ HO.out.arg).mono ?_
      rintro e w2 ⟨y, rfl, hy, hb2⟩
      have HY : Hid (LOwn w.heap.size w2 y out) := own_lower HBW.out.size hy
      have HY2 : Hid (LOwn wr.heap.size w2 y out) := hy
      have HO2 : Hid (LOwn w.heap.size w2 (.slice ao (List.length out) co) out) := own_below HO.out hb2
      have HBR : Hid (Below wr.heap.size wr w2) := hb2
      have HB2 : Hid (Below w.heap.size w w2) := HBW.out.trans (hb2.mono HBW.out.size)
      obtain ⟨ay, cy, rfl⟩ := own_form (show w2.ownsRow _ _ _ _ _ _ from hy)
      clear hy hb2
      go_wp2_with fail
      refine (del_lit out k (by omega) wr.heap.size _ _ HY2.out).mono ?_
      rintro e w3 ⟨z, rfl, hz, hb3⟩
      have HZ : Hid (LOwn w.heap.size w3 z (out.eraseIdx k)) := own_lower HBW.out.size hz
      have HBR3 : Hid (Below wr.heap.size wr w3) := HBR.out.trans hb3
      have HO3 : Hid (LOwn w.heap.size w3 (.slice ao (List.length out) co) out) := own_below HO.out HBR3.out
      have HB3 : Hid (Below w.heap.size w w3) := HBW.out.trans (HBR3.out.mono HBW.out.size)
      obtain ⟨az, cz, rfl⟩ := own_form (show w3.ownsRow _ _ _ _ _ _ from hz)
      have HCL : Hid (Calls Tryz.prog F (#[.slice az (out.eraseIdx k).length cz] ++ caps) w3 fun e w'' => e = .returned (.bool (enough (out.eraseIdx k))) ∧ Below w3.heap.size w3 w'') := HF.out.2 _ _ _ (by have := hlo.out; have := HEL.out; omega) HB3.out HZ.out.arg
      obtain ⟨B, hB⟩ : ∃ B, enough (out.eraseIdx k) = B := ⟨_, rfl⟩
      rw [hB] at HCL HST
      obtain ⟨E, hE⟩ : ∃ E, out.eraseIdx k = E := ⟨_, rfl⟩
      rw [hE] at HCL HST HEL HZ ⊢
      have HLK : Hid (E.length ≤ l.length) := by have := hlo.out; have := HEL.out; show _ ≤ _; omega
      have hkE : k ≤ E.length := by have := HEL.out; omega
      clear hz hb3 hB hE
      go_wp2_with fail
      rw [HF.out.1, Oper.upon_enter]
      refine HCL.out.mono ?_
      rintro e w4 ⟨rfl, hb4⟩
      have HO4 : Hid (LOwn w.heap.size w4 (.slice ao (List.length out) co) out) := own_below HO3.out hb4
      have HZ4 : Hid (LOwn w.heap.size w4 (.slice az (List.length E) cz) E) := own_below HZ.out hb4
      have HB4 : Hid (Below w.heap.size w w4) := HB3.out.trans (hb4.mono HB3.out.size)
      clear hb4
      cases B
      · have HN : Hid (R = leastL enough k out) := HST.out
        clear HST
        go_wp2
        go_roundw
        case rel => exact ⟨out, k, rfl, by omega, hlo, HO4.out, HN, HB4.out⟩
        case measure => simp [intOf]
      · have HN : Hid (R = leastL enough k E) := HST.out
        clear HST
        go_wp2
        go_roundw
        case rel => exact ⟨E, k, rfl, hkE, HLK, HZ4.out, HN, HB4.out⟩
        case measure => simp [intOf]
end Go.Proofs.YtdjbejlbmaiocagGreatDoor
/-
  WALKS: package follow: the least of a list of reasons that is enough.
-/
namespace Go.Proofs.YtdjbejlbmaiocagGreatDoor
open Go.RowKit

/-- A reason, and where its clause lies. -/
abbrev RV := (MStep × Nat) × Value
def reasonCs (x : RV) : List Value := [.int .i64 x.1.1.kind, .int .i64 x.1.1.con, x.2, .int .u64 (x.1.2 : Int)]
def IsSl (x : RV) : Prop := ∃ a n c, x.2 = .slice a n c
theorem reasons_wide (l : List RV) : ∀ c ∈ l.map reasonCs, c.length = 4 := by
  intro c hc
  obtain ⟨t, _, rfl⟩ := List.mem_map.1 hc
  rfl
theorem reasons_single (l : List RV) (h : ∀ x ∈ l, IsSl x) : ∀ c ∈ l.map reasonCs, ∀ u ∈ c, u.oneCell' = true := by
  intro c hc u hu
  obtain ⟨t, ht, rfl⟩ := List.mem_map.1 hc
  obtain ⟨a, n, c, he⟩ := h t ht
  simp [reasonCs, he] at hu
  rcases hu with rfl | rfl | rfl | rfl <;> rfl
def ROwn (base : Nat) (w : World) (v : Value) (l : List RV) : Prop := w.ownsRow base 287 4 v l.length (l.map reasonCs).flatten
def RvArg (w : World) (v : Value) (l : List RV) : Prop := EArg w v (l.map reasonCs)
theorem RvArg.below {w w' : World} {v : Value} {l : List RV} (hb : Below w.heap.size w w') (h : RvArg w v l) : RvArg w' v l := EArg.below hb h
theorem rv_form {w : World} {v : Value} {l : List RV} (h : RvArg w v l) : ∃ a c, v = .slice a l.length c := by
  obtain ⟨a, c, rfl, _, _⟩ := h
  exact ⟨a, c, by rw [List.length_map]⟩
theorem ROwn.arg {base : Nat} {w : World} {v : Value} {l : List RV} (h : ROwn base w v l) : RvArg w v l := own_earg (reasons_wide l) (by rw [List.length_map]; exact h)
theorem rown_lower {base base' : Nat} {w : World} {v : Value} {l : List RV} (hb : base' ≤ base) (h : ROwn base w v l) : ROwn base' w v l := World.ownsRow.mono h hb
/-- A closure that says whether reasons are enough; it leaves alone what is old. -/
def ClosR2 (F : Nat) (caps : Array Value) (enough : List RV → Bool) (l : List RV) (w : World) : Prop :=
  (∀ (args : Array Value) (w' : World), Sem.run Tryz.prog (callFunc F args) w' = .ok (.enter F args) w') ∧
  ∀ (c : List RV) (v : Value) (w' : World), c.length ≤ l.length → (∀ x ∈ c, x ∈ l) → Below w.heap.size w w' → RvArg w' v c → Calls Tryz.prog F (#[v] ++ caps) w' fun e w'' => e = .returned (.bool (enough c)) ∧ Below w'.heap.size w' w''
theorem del_reason (l : List RV) (h1 : ∀ x ∈ l, IsSl x) (k : Nat) (hk : k < l.length) (base : Nat) (v : Value) (w : World) (h : ROwn base w v l) :
    Calls Tryz.prog 282 #[v, .int .i64 k, .int .i64 ((k : Int) + 1)] w fun e w' => ∃ x, e = .returned x ∧ ROwn base w' x (l.eraseIdx k) ∧ Below base w w' := by
  refine (del_reasons (l.map reasonCs) (reasons_wide l) (reasons_single l h1) k (by rw [List.length_map]; exact hk) base v w (by rw [List.length_map]; exact h)).mono ?_
  rintro e w' ⟨x, rfl, hx, hb⟩
  rw [erase_map, List.length_map] at hx
  exact ⟨x, rfl, hx, hb⟩
theorem clone_reason (l : List RV) (h1 : ∀ x ∈ l, IsSl x) (hl : l.length ≤ 9000) (v : Value) (w : World) (h : RvArg w v l) :
    Calls Tryz.prog 281 #[v] w fun e w' => ∃ x, e = .returned x ∧ ROwn w.heap.size w' x l ∧ Below w.heap.size w w' := by
  refine (clone_reasons (l.map reasonCs) (reasons_wide l) (reasons_single l h1) (by rw [List.length_map]; exact hl) v w h).mono ?_
  rintro e w' ⟨x, rfl, hx, hb⟩
  rw [List.length_map] at hx
  exact ⟨x, rfl, hx, hb⟩

set_option maxHeartbeats 1600000 in
set_option maxRecDepth 100000 in
theorem least_reasons (F : Nat) (caps : Array Value) (enough : List RV → Bool) (l : List RV) (hsl : ∀ x ∈ l, IsSl x) (hl : l.length ≤ 9000) (v : Value) (w : World) (hv : RvArg w v l) (hF : ClosR2 F caps enough l w) :
    Calls Tryz.prog 255 #[v, .func (.func F) #[] caps] w fun e w' => ∃ x, e = .returned x ∧ ROwn w.heap.size w' x (leastL enough l.length l) ∧ Below w.heap.size w w' := by
  have HV : Hid (RvArg w v l) := hv
  have HSL : Hid (∀ x ∈ l, IsSl x) := hsl
  have HL : Hid (l.length ≤ 9000) := hl
  have HF : Hid (ClosR2 F caps enough l w) := hF
  obtain ⟨R, hR⟩ : ∃ R, leastL enough l.length l = R := ⟨_, rfl⟩
  have HR : Hid (R = leastL enough l.length l) := hR.symm
  rw [hR]
  obtain ⟨a, c, rfl⟩ := rv_form hv
  clear hF hR hsl
  go_enter Tryz.func255, Tryz.ntmps255
  go_wp2_with fail
  refine (clone_reason l HSL.out HL.out _ _ HV.out).mono ?_
  rintro e w1 ⟨x, rfl, hx, hb1⟩
  have HX : Hid (ROwn w.heap.size w1 x l) := hx
  have HB1 : Hid (Below w.heap.size w w1) := hb1
  obtain ⟨ax, cx, rfl⟩ := own_form (show w1.ownsRow _ _ _ _ _ _ from hx)
  clear hx hb1
  go_wp2_with fail
  go_loopw [5, 6] (fun o i wr => ∃ (out : List RV) (k : Nat), i = .int .i64 ((k : Int) - 1) ∧ k ≤ out.length ∧ Hid (out.length ≤ l.length) ∧ Hid (∀ x ∈ out, x ∈ l) ∧ ROwn w.heap.size wr o out ∧ Hid (R = leastL enough k out) ∧ Below w.heap.size w wr) (fun _ i _ => (intOf i + 1).toNat)
  case atStart => exact ⟨l, l.length, rfl, Nat.le_refl _, Nat.le_refl _, fun _ h => h, HX.out, HR, HB1.out⟩
  case round =>
    obtain ⟨out, k, rfl, hk, hlo, hso, ho, hrd, hbw⟩ := hrel
    have HSO : Hid (∀ x ∈ out, IsSl x) := fun x hx => HSL.out x (hso.out x hx)
    have HO : Hid (ROwn w.heap.size wr u5 out) := ho
    have HBW : Hid (Below w.heap.size w wr) := hbw
    obtain ⟨ao, co, rfl⟩ := own_form (show wr.ownsRow _ _ _ _ _ _ from ho)
    clear ho hbw
    cases k with
    | zero =>
      have HE : Hid (R = out) := hrd.out
      clear hrd
      go_wp2
      go_ret
      exact ⟨_, rfl, by rw [HE.out]; exact HO.out, HBW.out⟩
    | succ k =>
      have hke : ((k + 1 : Nat) : Int) - 1 = (k : Int) := by omega
      rw [hke]
      have HST : Hid (R = leastL enough k (if enough (out.eraseIdx k) then out.eraseIdx k else out)) := hrd.out
      have HLO : Hid (out.length ≤ 9000) := Nat.le_trans hlo.out HL.out
      have HEL : Hid ((out.eraseIdx k).length = out.length - 1) := List.length_eraseIdx_of_lt (by omega)
      have hk9 : k + 1 ≤ 9000 := Nat.le_trans hk HLO.out
      clear hrd hke
      go_wp2_with fail
      refine (clone_reason out HSO.out HLO.out _ _ HO.out.arg).mono ?_
      rintro e w2 ⟨y, rfl, hy, hb2⟩
      have HY : Hid (ROwn w.heap.size w2 y out) := rown_lower HBW.out.size hy
      have HY2 : Hid (ROwn wr.heap.size w2 y out) := hy
      have HO2 : Hid (ROwn w.heap.size w2 (.slice ao (List.length out) co) out) := own_below HO.out hb2
      have HBR : Hid (Below wr.heap.size wr w2) := hb2
      have HB2 : Hid (Below w.heap.size w w2) := HBW.out.trans (hb2.mono HBW.out.size)
      obtain ⟨ay, cy, rfl⟩ := own_form (show w2.ownsRow _ _ _ _ _ _ from hy)
      clear hy hb2
      go_wp2_with fail
      refine (del_reason out HSO.out k (by omega) wr.heap.size _ _ HY2.out).mono ?_
      rintro e w3 ⟨z, rfl, hz, hb3⟩
      have HZ : Hid (ROwn w.heap.size w3 z (out.eraseIdx k)) := rown_lower HBW.out.size hz
      have HBR3 : Hid (Below wr.heap.size wr w3) := HBR.out.trans hb3
      have HO3 : Hid (ROwn w.heap.size w3 (.slice ao (List.length out) co) out) := own_below HO.out HBR3.out
      have HB3 : Hid (Below w.heap.size w w3) := HBW.out.trans (HBR3.out.mono HBW.out.size)
      obtain ⟨az, cz, rfl⟩ := own_form (show w3.ownsRow _ _ _ _ _ _ from hz)
      have HCL : Hid (Calls Tryz.prog F (#[.slice az (out.eraseIdx k).length cz] ++ caps) w3 fun e w'' => e = .returned (.bool (enough (out.eraseIdx k))) ∧ Below w3.heap.size w3 w'') := HF.out.2 _ _ _ (by have := hlo.out; have := HEL.out; omega) (fun x hx => hso.out x (List.mem_of_mem_eraseIdx hx)) HB3.out HZ.out.arg
      obtain ⟨B, hB⟩ : ∃ B, enough (out.eraseIdx k) = B := ⟨_, rfl⟩
      rw [hB] at HCL HST
      have HSE : Hid (∀ x ∈ out.eraseIdx k, x ∈ l) := fun x hx => hso.out x (List.mem_of_mem_eraseIdx hx)
      obtain ⟨E, hE⟩ : ∃ E, out.eraseIdx k = E := ⟨_, rfl⟩
      rw [hE] at HCL HST HEL HZ HSE ⊢
      have HLK : Hid (E.length ≤ l.length) := by have := hlo.out; have := HEL.out; show _ ≤ _; omega
      have hkE : k ≤ E.length := by have := HEL.out; omega
      clear hz hb3 hB hE
      go_wp2_with fail
      rw [HF.out.1, Oper.upon_enter]
      refine HCL.out.mono ?_
      rintro e w4 ⟨rfl, hb4⟩
      have HO4 : Hid (ROwn w.heap.size w4 (.slice ao (List.length out) co) out) := own_below HO3.out hb4
      have HZ4 : Hid (ROwn w.heap.size w4 (.slice az (List.length E) cz) E) := own_below HZ.out hb4
      have HB4 : Hid (Below w.heap.size w w4) := HB3.out.trans (hb4.mono HB3.out.size)
      clear hb4
      cases B
      · have HN : Hid (R = leastL enough k out) := HST.out
        clear HST
        go_wp2
        go_roundw
        case rel => exact ⟨out, k, rfl, by omega, hlo, hso, HO4.out, HN, HB4.out⟩
        case measure => simp [intOf]
      · have HN : Hid (R = leastL enough k E) := HST.out
        clear HST
        go_wp2
        go_roundw
        case rel => exact ⟨E, k, rfl, hkE, HLK, HSE, HZ4.out, HN, HB4.out⟩
        case measure => simp [intOf]
end Go.Proofs.YtdjbejlbmaiocagGreatDoor
/-
  WALK: package fence: Why.
-/
namespace Go.Proofs.YtdjbejlbmaiocagGreatDoor
open Go.RowKit

set_option maxHeartbeats 3200000 in
set_option maxRecDepth 100000 in
theorem why_any (vs : List MVar) (hva : VarsAll vs) (pts : List Nat) (any : Cla) (hla : any.length ≤ 100) (g0 : Nat) (hgw : ∀ i, g0.testBit i = true → (wholeP vs).testBit i = true) (sv pv u : Value) (w : World) (hv : VArg w sv vs) (hp : PArg w pv pts) (hu : LArg w u any) (hT : TabT w) :
    Calls Tryz.prog 285 #[sv, pv, u, .int .u64 g0] w fun e w' => ∃ x, e = .returned x ∧ LOwn w.heap.size w' x (whyP vs pts any g0) ∧ Below w.heap.size w w' := by
  have HV : Hid (∀ w', Below w.heap.size w w' → VArg w' sv vs) := fun w' h => VArg.below h hv
  have HP : Hid (∀ w', Below w.heap.size w w' → PArg w' pv pts) := fun w' h => PArg.below h hp
  have HU : Hid (∀ w', Below w.heap.size w w' → LArg w' u any) := fun w' h => LArg.below h hu
  have HT : Hid (∀ w', Below w.heap.size w w' → TabT w') := fun w' h => hT.below h
  have HVO : Hid (VarsAll vs) := hva
  have HLA : Hid (any.length ≤ 100) := hla
  have HGW : Hid (∀ i, g0.testBit i = true → (wholeP vs).testBit i = true) := hgw
  have HG36 : Hid (g0 < 2 ^ 36) := Nat.lt_of_le_of_lt (Nat.le_of_testBit hgw) (whole_lt vs hva.1)
  obtain ⟨h, hh⟩ : ∃ h, heldP vs any = h := ⟨_, rfl⟩
  have HH : Hid (heldP vs any = h) := hh
  have HH36 : Hid (h < 2 ^ 36) := by rw [← hh]; exact of_lt vs hva.1 _
  obtain ⟨LP, hLP⟩ : ∃ LP, spareP (fun g => saysP vs pts (h ||| g)) (g0 + 1) g0 g0 = LP := ⟨_, rfl⟩
  have HWY : Hid (whyP vs pts any g0 = any ++ litsP vs LP) := by show _ = _; unfold whyP; rw [hh, hLP]
  have HLE : Hid (LP = spareP (fun g => saysP vs pts (h ||| g)) (g0 + 1) g0 g0) := hLP.symm
  obtain ⟨a1, c1, rfl, _, _⟩ := hv
  obtain ⟨a2, c2, rfl, _, _⟩ := hp
  obtain ⟨a3, c3, rfl, _, _⟩ := hu
  clear hva hla hgw hh hLP hT
  go_enter Tryz.func285, Tryz.ntmps285
  go_wp2_with fail
  refine (held_any vs HVO.out any _ _ _ (HV.out _ (Below.refl _ _)) (HU.out _ (Below.refl _ _))).mono ?_
  rintro e w1 ⟨rfl, hb1⟩
  rw [HH.out]
  have HB1 : Hid (Below w.heap.size w w1) := hb1
  clear hb1
  go_wp2_with fail
  go_loopw [3, 10] (fun g r wr => ∃ gg rr : Nat, g = .int .u64 (gg : Int) ∧ r = .int .u64 (rr : Int) ∧ Hid (gg < 2 ^ 36) ∧ Hid (rr < 2 ^ 36) ∧ Hid (LP = spareP (fun g => saysP vs pts (h ||| g)) (rr + 1) gg rr) ∧ Hid (∀ i, gg.testBit i = true → (wholeP vs).testBit i = true) ∧ Hid (Below w.heap.size w wr)) (fun _ r _ => (intOf r).toNat)
  case atStart => exact ⟨g0, g0, rfl, rfl, HG36, HG36, HLE, HGW, HB1⟩
  case round =>
    obtain ⟨gg, rr, rfl, rfl, hg36, hr36, hle, hgw, hbw⟩ := hrel
    by_cases hr0 : rr = 0
    · subst hr0
      have HEQ : Hid (LP = gg) := by show _ = _; rw [hle.out]; rfl
      clear hle
      go_wp2_with fail
      refine (clone_cla any (by have := HLA.out; omega) _ _ (HU.out _ hbw.out)).mono ?_
      rintro e w2 ⟨x, rfl, hx, hb2⟩
      have HB2 : Hid (Below w.heap.size w w2) := hbw.out.trans (hb2.mono hbw.out.size)
      have HX : Hid (LOwn w.heap.size w2 x any) := own_lower hbw.out.size hx
      have HSZ : Hid (w.heap.size ≤ w2.heap.size) := HB2.out.size
      obtain ⟨ax, cx, rfl⟩ := own_form (show w2.ownsRow _ _ _ _ _ _ from hx)
      clear hx hb2
      go_wp2_with fail
      refine (flits_any vs HVO.out gg hgw.out _ _ (HV.out _ HB2.out) (HT.out _ HB2.out)).mono ?_
      rintro e w3 ⟨y, rfl, hy, hb3⟩
      have HX3 : Hid (LOwn w.heap.size w3 (.slice ax (List.length any) cx) any) := own_below HX.out hb3
      have HB3 : Hid (Below w.heap.size w w3) := HB2.out.trans (hb3.mono HB2.out.size)
      have HLL : Hid ((litsP vs gg).length ≤ 36) := lits_len _ _
      obtain ⟨L, hL⟩ : ∃ L, litsP vs gg = L := ⟨_, rfl⟩
      have HRE : Hid (whyP vs pts any g0 = any ++ L) := by show _ = _; rw [HWY.out, HEQ.out, hL]
      rw [hL] at hy HLL
      have HY : Hid (LArg w3 y L) := hy.arg
      have HXL : Hid (∀ g, (Value.slice ax (List.length any) cx).ownBlock = some g → w.heap.size ≤ g) := fun g hg => ((show w3.ownsRow _ _ _ _ _ _ from HX3.out).lt g hg).1
      obtain ⟨ay, cy, rfl⟩ := own_form (show w3.ownsRow _ _ _ _ _ _ from hy)
      clear hy hb3 hL
      go_wp2_with (at_builtin; refine wpList_append_lits 38 under_clone_cla rfl _ _ rfl w.heap.size _ any rfl HX3.out _ L rfl HY.out ?c1 ?c2 ?_)
      case c1 => have := HLL.out; have := HLA.out; omega
      case c2 => exact HB3.out.size
      intro v4 w4 hown4 hgrow
      have HO4 : Hid (LOwn w.heap.size w4 v4 (any ++ L)) := hown4
      have HB4 : Hid (Below w.heap.size w w4) := HB3.out.grown hgrow HB3.out.size (fun g hg => HXL.out g hg)
      obtain ⟨av, cv, rfl⟩ := own_form (show w4.ownsRow _ _ _ _ _ _ from hown4)
      clear hown4 hgrow
      go_wp2
      go_ret
      exact ⟨_, rfl, by rw [HRE.out]; exact HO4.out, HB4.out⟩
    · have HST : Hid (LP = spareP (fun g => saysP vs pts (h ||| g)) ((rr &&& (rr - 1)) + 1) (if saysP vs pts (h ||| lessN gg (2 ^ Lib.ctz 64 rr)) then lessN gg (2 ^ Lib.ctz 64 rr) else gg) (rr &&& (rr - 1))) := by
        show _ = _
        rw [hle.out]; exact spare_step _ gg rr hr0 (by have := hr36.out; omega)
      obtain ⟨hlow, hk⟩ := Lib.lowest_bit 64 rr hr0 (by have := hr36.out; omega)
      have hless := low_less rr hr0 (by have := hr36.out; omega)
      obtain ⟨hk36⟩ : Nonempty (Lib.ctz 64 rr < 36) := ⟨(bitsL_step rr hr0 hr36.out).2⟩
      have hpow : 2 ^ Lib.ctz 64 rr < 2 ^ 36 := Nat.pow_lt_pow_right (by omega) hk36
      obtain ⟨tt, htt⟩ : ∃ tt, 2 ^ Lib.ctz 64 rr = tt := ⟨_, rfl⟩
      rw [htt] at hlow hpow HST
      have hneg : IntKind.u64.wrap (-(rr : Int)) = ((18446744073709551616 - rr : Nat) : Int) := by rw [IntKind.wrap_u64]; have := hr36.out; omega
      have hand := bits_and_u64_nat rr (18446744073709551616 - rr) (by have := hr36.out; omega) (by omega)
      have hlow' : rr &&& (18446744073709551616 - rr) = tt := hlow
      rw [hlow'] at hand
      obtain ⟨N0, hN0⟩ : ∃ N0, 18446744073709551616 - rr = N0 := ⟨_, rfl⟩
      rw [hN0] at hneg hand
      have hnot := bits_andNot_u64 gg tt (by have := hg36.out; omega) (by omega)
      obtain ⟨sp, hsp⟩ : ∃ sp, lessN gg tt = sp := ⟨_, rfl⟩
      have HSP36 : Hid (sp < 2 ^ 36) := by rw [← hsp]; exact less_lt 36 _ _ hg36.out
      have HSW : Hid (∀ i, sp.testBit i = true → (wholeP vs).testBit i = true) := fun i hi => by
        rw [← hsp, testBit_less, Bool.and_eq_true] at hi
        exact hgw.out i hi.1
      rw [hsp] at hnot HST
      obtain ⟨r2, hr2⟩ : ∃ r2, rr &&& (rr - 1) = r2 := ⟨_, rfl⟩
      have hsub : IntKind.u64.wrap ((rr : Int) - 1) = ((rr - 1 : Nat) : Int) := by rw [IntKind.wrap_u64]; have := hr36.out; omega
      have hand2 := bits_and_u64_nat rr (rr - 1) (by have := hr36.out; omega) (by have := hr36.out; omega)
      obtain ⟨r1, hr1⟩ : ∃ r1, rr - 1 = r1 := ⟨_, rfl⟩
      rw [hr2] at hand2 hless HST
      rw [hr1] at hsub hand2
      have HR236 : Hid (r2 < 2 ^ 36) := by have := hr36.out; show _ < _; omega
      have HLS : Hid (r2 < rr) := hless
      have hne : ((rr : Int) != 0) = true := by simpa using hr0
      have hor := bits_or_u64_nat h sp (by have := HH36.out; omega) (by have := HSP36.out; omega)
      obtain ⟨hs, hhs⟩ : ∃ hs, h ||| sp = hs := ⟨_, rfl⟩
      have HHS36 : Hid (hs < 2 ^ 36) := by rw [← hhs]; exact or_lt36 HH36.out HSP36.out
      rw [hhs] at hor HST
      obtain ⟨B, hB⟩ : ∃ B, saysP vs pts hs = B := ⟨_, rfl⟩
      have HSY : Hid (Calls Tryz.prog 126 #[.slice a1 (List.length vs) c1, .slice a2 (List.length pts) c2, .int .u64 (hs : Int)] wr fun e w' => e = .returned (.bool B) ∧ Below wr.heap.size wr w') := by
        rw [← hB]
        exact says_any vs HVO.out pts hs HHS36.out _ _ wr (HV.out _ hbw.out) (HP.out _ hbw.out)
      rw [hB] at HST
      have HGWK : Hid (∀ i, gg.testBit i = true → (wholeP vs).testBit i = true) := hgw.out
      clear hle hr0 hlow hk hk36 hpow htt hlow' hN0 hsp hr2 hr1 hless hB hgw hhs
      cases B
      · have HS2 : Hid (LP = spareP (fun g => saysP vs pts (h ||| g)) (r2 + 1) gg r2) := by show _ = _; rw [HST.out]; rfl
        clear HST
        go_wp2_with fail
        refine HSY.out.mono ?_
        rintro e w7 ⟨rfl, hb7⟩
        have HB7 : Hid (Below w.heap.size w w7) := hbw.out.trans (hb7.mono hbw.out.size)
        clear hb7
        go_wp2
        go_roundw
        case rel => exact ⟨gg, r2, rfl, rfl, hg36, HR236, HS2, HGWK, HB7⟩
        case measure => simp [intOf]; exact HLS.out
      · have HS2 : Hid (LP = spareP (fun g => saysP vs pts (h ||| g)) (r2 + 1) sp r2) := by show _ = _; rw [HST.out]; rfl
        clear HST
        go_wp2_with fail
        refine HSY.out.mono ?_
        rintro e w7 ⟨rfl, hb7⟩
        have HB7 : Hid (Below w.heap.size w w7) := hbw.out.trans (hb7.mono hbw.out.size)
        clear hb7
        go_wp2
        go_roundw
        case rel => exact ⟨sp, r2, rfl, rfl, HSP36, HR236, HS2, HSW, HB7⟩
        case measure => simp [intOf]; exact HLS.out
end Go.Proofs.YtdjbejlbmaiocagGreatDoor
/-
  MEMORY: reasons that are gathered. WALKS: package follow: reasons' closures.
-/
namespace Go.Proofs.YtdjbejlbmaiocagGreatDoor
open Go.RowKit

/-- Reasons, gathered in a box. -/
structure ReaS (w0 : World) (r : Nat) (w : World) (ov : Value) (L : List RV) : Prop where
  blk0 : w.heap[w0.heap.size]? = some (.cells #[.pointer (some ⟨r, 0, none⟩)] 117)
  blk : w.heap[w0.heap.size + 1]? = some (.cells #[ov] 284)
  own : ROwn (w0.heap.size + 2) w ov L
  cl : ∀ x ∈ L, LOwn (w0.heap.size + 2) w x.2 x.1.1.cla
  fr : Below w0.heap.size w0 w
theorem ReaS.below {w0 w w' : World} {r : Nat} {ov : Value} {L : List RV} (h : ReaS w0 r w ov L) (hb : Below w.heap.size w w') : ReaS w0 r w' ov L :=
  ⟨(hb.block _ (Array.getElem?_eq_some_iff.1 h.blk0).1).trans h.blk0, (hb.block _ (Array.getElem?_eq_some_iff.1 h.blk).1).trans h.blk, own_below h.own hb, fun x hx => own_below (h.cl x hx) hb, h.fr.trans (hb.mono h.fr.size)⟩
theorem ReaS.sl {w0 w : World} {r : Nat} {ov : Value} {L : List RV} (h : ReaS w0 r w ov L) : ∀ x ∈ L, IsSl x := fun x hx => by
  obtain ⟨a, c, he⟩ := own_form (show w.ownsRow _ _ _ _ _ _ from h.cl x hx)
  exact ⟨a, _, c, he⟩
/-- A block of another type is not a row's own. -/
theorem blk_not_own {w : World} {B b : Nat} {e t : TypeId} {s n : Nat} {v : Value} {xs : List Value} {cs : Array Value} (h : w.ownsRow B e s v n xs) (hb : w.heap[b]? = some (.cells cs t)) (hne : t ≠ e) : v.ownBlock ≠ some b := by
  intro he
  rcases h.2 with ⟨rfl, _⟩ | ⟨g, cap, cur, rfl, _, hh, _⟩
  · cases he
  · have : g = b := by injection he
    subst this
    rw [hh] at hb
    injection hb with h1
    injection h1 with _ h2
    exact hne h2.symm
theorem reason_laid (w : World) (x : RV) : ∀ (j : Nat) (u : Value), (reasonCs x)[j]? = some u → (w.alloc (.cells #[.int .i64 x.1.1.kind, .int .i64 x.1.1.con, x.2, .int .u64 (x.1.2 : Int)] 287)).cell? ((⟨w.heap.size, 0, none⟩ : Addr).add j) = some u := by
  intro j u hj
  match j, hj with
  | 0, hj => simp [reasonCs] at hj; subst hj; simp [Addr.add]
  | 1, hj => simp [reasonCs] at hj; subst hj; simp [Addr.add]
  | 2, hj => simp [reasonCs] at hj; subst hj; simp [Addr.add]
  | 3, hj => simp [reasonCs] at hj; subst hj; simp [Addr.add]
theorem ReaS.push {w0 w w1 w2 : World} {r : Nat} {ov v' : Value} {L : List RV} {x : RV} {n : Nat} (h : ReaS w0 r w ov L) (hb : Below w.heap.size w w1) (hx : LOwn (w0.heap.size + 2) w1 x.2 x.1.1.cla) (hg : w1.grownBy w2 ov.ownBlock) (hn : n = L.length + 1) (ho : w2.ownsRow (w0.heap.size + 2) 287 4 v' n ((L.map reasonCs).flatten ++ reasonCs x)) :
    ReaS w0 r (w2.setCell ⟨w0.heap.size + 1, 0, none⟩ v') v' (L ++ [x]) ∧ Fr (fun k => k = w0.heap.size + 1 ∨ ov.ownBlock = some k) w (w2.setCell ⟨w0.heap.size + 1, 0, none⟩ v') := by
  have h1 := h.below hb
  have hb2 : w2.heap[w0.heap.size + 1]? = some (.cells #[ov] 284) := blk_grown h1.blk hg h1.own (by decide)
  have ho2 : ROwn (w0.heap.size + 2) w2 v' (L ++ [x]) := by
    show World.ownsRow _ _ _ _ _ _ _
    rw [List.length_append, List.length_singleton, ← hn, List.map_append, List.flatten_append]
    simpa using ho
  refine ⟨⟨?_, ?_, own_set ho2 hb2 (by decide) 0 _, fun y hy => ?_, ?_⟩, ?_⟩
  · exact (Below.heap_setCell _ _ _ _ (by simp)).trans (blk_grown h1.blk0 hg h1.own (by decide))
  · rw [heap_setCell_same w2 _ 0 _ _ v' hb2]; rfl
  · rcases List.mem_append.1 hy with h3 | h3
    · exact own_set (own_grown (h1.cl y h3) hg h1.own (by decide)) hb2 (by decide) 0 _
    · rw [List.mem_singleton.1 h3]
      exact own_set (own_grown hx hg h1.own (by decide)) hb2 (by decide) 0 _
  · exact (h1.fr.grown hg h1.fr.size (fun k hk => by have := (h1.own.lt k hk).1; omega)).setCell (show w0.heap.size ≤ w0.heap.size + 1 by omega) _
  · exact Fr.setX (X := fun k => k = w0.heap.size + 1 ∨ ov.ownBlock = some k) ((Fr.below hb).grown hg (fun k hk => Or.inl (Or.inr hk))) (p := ⟨w0.heap.size + 1, 0, none⟩) (Or.inl rfl) _

set_option maxHeartbeats 6400000 in
set_option maxRecDepth 100000 in
theorem radd_any (vs : List MVar) (hva : VarsAll vs) (pt : List (List Nat)) (cs : List Nat) (r : Nat) (sv pv cv : Value) (w0 : World) (hR : RulesAt w0 r sv pv cv vs pt cs) (con : Nat) (pts : List Nat) (hcon : pt[con]? = some pts) (g0 : Nat) (hgw : ∀ i, g0.testBit i = true → (wholeP vs).testBit i = true)
    (any : Cla) (hla : any.length ≤ 100) (u : Value) (bc bg : Nat) (ov : Value) (L : List RV) (hLL : L.length ≤ 8000) (w : World) (hS : ReaS w0 r w ov L) (hu : LArg w u any)
    (hc : w.cell? ⟨bc, 0, none⟩ = some (.int .i64 con)) (hg : w.cell? ⟨bg, 0, none⟩ = some (.int .u64 g0)) (hlc : bc < w.heap.size) (hlg : bg < w.heap.size) :
    Calls Tryz.prog 284 #[u, .pointer (some ⟨w0.heap.size, 0, none⟩), .pointer (some ⟨bc, 0, none⟩), .pointer (some ⟨bg, 0, none⟩), .pointer (some ⟨w0.heap.size + 1, 0, none⟩)] w fun e w' => e = .returned (.tuple #[]) ∧
      ∃ ov' x, x.1 = reasonOf vs con (whyP vs pts any g0) ∧ ReaS w0 r w' ov' (L ++ [x]) ∧ Fr (fun k => k = w0.heap.size + 1 ∨ ov.ownBlock = some k) w w' := by
  obtain ⟨i0, hi0, hz0, hz1, hz2⟩ := info_parts Tryz.infoReason
  have HS : Hid (ReaS w0 r w ov L) := hS
  have hb1 : w.cell? ⟨w0.heap.size, 0, none⟩ = some (.pointer (some ⟨r, 0, none⟩)) := blk9 hS.blk0 0 _ rfl
  have hl1 : w0.heap.size + 1 < w.heap.size := (Array.getElem?_eq_some_iff.1 hS.blk).1
  have HR : Hid (∀ Y, Below w.heap.size w Y → RulesAt Y r sv pv cv vs pt cs) := fun Y hY => RulesAt.below (hS.fr.trans (hY.mono hS.fr.size)) hR
  have HU : Hid (∀ Y, Below w.heap.size w Y → LArg Y u any) := fun Y hY => LArg.below hY hu
  have HVO : Hid (VarsAll vs) := hva
  have HLA : Hid (any.length ≤ 100) := hla
  have HGW : Hid (∀ i, g0.testBit i = true → (wholeP vs).testBit i = true) := hgw
  have hRW := RulesAt.below hS.fr hR
  have r0 := hRW.c0
  have r1 := hRW.c1
  have rl := hRW.lt
  obtain ⟨a1, c1, rfl, _, _⟩ := hRW.hv
  obtain ⟨a2, c2, rfl, hm2, hr2⟩ := hRW.hp
  have hct : con < pt.length := (List.getElem?_eq_some_iff.1 hcon).1
  obtain ⟨b, off, x, rfl, hb, hcx, hpx⟩ := hr2 con pts hcon
  have HPX : Hid (∀ Y, Below w.heap.size w Y → PArg Y x pts) := fun Y hY => PArg.below hY hpx
  obtain ⟨a3, c3, rfl, _, _⟩ := hpx
  obtain ⟨ao, co, rfl⟩ := own_form (show w.ownsRow _ _ _ _ _ _ from hS.own)
  obtain ⟨a4, c4, rfl, _, _⟩ := hu
  unfold maxLen at hm2
  obtain ⟨hm21, hm22⟩ := hm2
  obtain ⟨C, hC⟩ : ∃ C, whyP vs pts any g0 = C := ⟨_, rfl⟩
  have HC : Hid (whyP vs pts any g0 = C) := hC
  obtain ⟨h, hh⟩ : ∃ h, heldP vs C = h := ⟨_, rfl⟩
  have HRO : Hid (reasonOf vs con (whyP vs pts any g0) = (⟨1, (con : Int), C⟩, h)) := by show _ = _; rw [hC, ← hh]; rfl
  have HH : Hid (heldP vs C = h) := hh
  rw [HRO.out]
  have HWY : Hid (∀ Y, Below w.heap.size w Y → Calls Tryz.prog 285 #[.slice a1 (List.length vs) c1, .slice a3 (List.length pts) c3, .slice a4 (List.length any) c4, .int .u64 (g0 : Int)] Y fun e w' => ∃ x, e = .returned x ∧ LOwn Y.heap.size w' x C ∧ Below Y.heap.size Y w') := fun Y hY => by
    rw [← HC.out]
    exact why_any vs HVO.out pts any HLA.out g0 HGW.out _ _ _ Y (HR.out Y hY).hv (HPX.out Y hY) (HU.out Y hY) (HR.out Y hY).tab
  have HO2 : Hid (∀ Y, Below w.heap.size w Y → Y.cell? ⟨w0.heap.size + 1, 0, none⟩ = some (.slice ao L.length co)) := fun Y hY => blk9 (hS.below hY).blk 0 _ rfl
  have o2 := HO2.out w (Below.refl _ _)
  clear hva hla hgw hS hR hRW hr2 hcon hC hh
  go_enter Tryz.func284, Tryz.ntmps284
  go_wp2_with fail
  go_region_held3 (fun w' => Below w.heap.size w w' ∧ w'.cell? ⟨w0.heap.size, 0, none⟩ = some (.pointer (some ⟨r, 0, none⟩)) ∧ w'.cell? ⟨r, 0, none⟩ = some (.slice a1 (List.length vs) c1) ∧ w'.cell? ⟨r, 1, none⟩ = some (.slice (some ⟨b, off, none⟩) (List.length pt) c2) ∧ w'.cell? ⟨bc, 0, none⟩ = some (.int .i64 con) ∧ w'.cell? ⟨bg, 0, none⟩ = some (.int .u64 g0) ∧ w'.cell? ⟨b, off + con, none⟩ = some (.slice a3 (List.length pts) c3))
    ((refine (fun (hB : Below w.heap.size w _) => ⟨hB, (hB.cell (p := ⟨w0.heap.size, 0, none⟩) (Nat.lt_of_succ_lt hl1)).trans hb1, (hB.cell (p := ⟨r, 0, none⟩) rl).trans r0, (hB.cell (p := ⟨r, 1, none⟩) rl).trans r1, (hB.cell (p := ⟨bc, 0, none⟩) hlc).trans hc, (hB.cell (p := ⟨bg, 0, none⟩) hlg).trans hg, (hB.cell (p := ⟨b, off + con, none⟩) hb).trans hcx⟩ : Below w.heap.size w _ → _) ?_; first | exact (Below.refl _ _).drew | exact fen_call (by assumption) hbq))
    (first
      | (go_at_call 285; refine (HWY.out _ (show Below w.heap.size w _ ∧ _ by assumption).1).mono ?_; rintro e w3 ⟨xc, rfl, hxc, hbq⟩; obtain ⟨ac, cc, rfl⟩ := own_form (show w3.ownsRow _ _ _ _ _ _ from hxc); obtain ⟨base, HBASE, HXC⟩ : ∃ base, Hid (base = _) ∧ Hid (LOwn base w3 (.slice ac (List.length C) cc) C) := ⟨_, rfl, hxc⟩; clear hxc; have hB3 := fen_call (by assumption) hbq))
  have hbase : w0.heap.size + 2 ≤ base := by have e : base = w.heap.size := HBASE.out; omega
  have HXC2 : Hid (LOwn (w0.heap.size + 2) w3 (.slice ac (List.length C) cc) C) := own_lower hbase HXC.out
  have HB3 : Hid (Below w.heap.size w w3) := hB3
  have q1 := (hB3.cell (p := ⟨w0.heap.size, 0, none⟩) (Nat.lt_of_succ_lt hl1)).trans hb1
  have q2 := (hB3.cell (p := ⟨r, 0, none⟩) rl).trans r0
  have q3 := (hB3.cell (p := ⟨bc, 0, none⟩) hlc).trans hc
  have q4 := HO2.out w3 hB3
  have s3 := hB3.size
  have l1 : w0.heap.size + 1 < w3.heap.size := by omega
  have l2 : r < w3.heap.size := by omega
  clear hbq hB3 HBASE HXC hbase hb1 r0 r1 hc hg hcx o2
  go_upto_region 2 with (fail)
  have HBS : Hid (Below w3.heap.size w3 (w3.alloc (.cells #[.int .i64 1, .int .i64 con, .slice ac (List.length C) cc] 93))) := below_alloc _ _
  have t0 : (w3.alloc (.cells #[.int .i64 1, .int .i64 con, .slice ac (List.length C) cc] 93)).cell? ⟨w3.heap.size, 0, none⟩ = some (.int .i64 1) := World.cell?_alloc_at _ _ _ 0 (by simp)
  have t1 : (w3.alloc (.cells #[.int .i64 1, .int .i64 con, .slice ac (List.length C) cc] 93)).cell? ⟨w3.heap.size, 1, none⟩ = some (.int .i64 con) := World.cell?_alloc_at _ _ _ 1 (by simp)
  have t2 : (w3.alloc (.cells #[.int .i64 1, .int .i64 con, .slice ac (List.length C) cc] 93)).cell? ⟨w3.heap.size, 2, none⟩ = some (.slice ac (List.length C) cc) := World.cell?_alloc_at _ _ _ 2 (by simp)
  have tl : w3.heap.size < (w3.alloc (.cells #[.int .i64 1, .int .i64 con, .slice ac (List.length C) cc] 93)).heap.size := by simp
  obtain ⟨B, hB⟩ : ∃ B, w3.heap.size = B := ⟨_, rfl⟩
  rw [hB] at t0 t1 t2 tl ⊢
  obtain ⟨V, hV⟩ : ∃ V, w3.alloc (.cells #[.int .i64 1, .int .i64 con, .slice ac (List.length C) cc] 93) = V := ⟨_, rfl⟩
  rw [hV] at HBS t0 t1 t2 tl ⊢
  have HBV : Hid (Below w.heap.size w V) := HB3.out.trans (HBS.out.mono HB3.out.size)
  have k1 := (HBS.out.cell (p := ⟨w0.heap.size, 0, none⟩) (Nat.lt_of_succ_lt l1)).trans q1
  have k2 := (HBS.out.cell (p := ⟨r, 0, none⟩) l2).trans q2
  have k4 := (HBS.out.cell (p := ⟨w0.heap.size + 1, 0, none⟩) l1).trans q4
  have HSV : Hid (ReaS w0 r V (.slice ao L.length co) L) := HS.out.below HBV.out
  have HXV : Hid (LOwn (w0.heap.size + 2) V (.slice ac (List.length C) cc) C) := own_below HXC2.out HBS.out
  have HHE : Hid (∀ Y, Below V.heap.size V Y → Calls Tryz.prog 128 #[.slice a1 (List.length vs) c1, .slice ac (List.length C) cc] Y fun e w' => e = .returned (.int .u64 (h : Int)) ∧ Below Y.heap.size Y w') := fun Y hY => by
    rw [← HH.out]; exact held_any vs HVO.out C _ _ Y (HR.out Y (HBV.out.trans (hY.mono HBV.out.size))).hv (LArg.below hY HXV.out.arg)
  have vl1 : w0.heap.size + 1 < V.heap.size := Nat.lt_of_lt_of_le l1 HBS.out.size
  have vl2 : r < V.heap.size := Nat.lt_of_lt_of_le l2 HBS.out.size
  have vlB : B < V.heap.size := tl
  clear hB hV q1 q2 q3 q4 s3 tl
  go_region_law
    (first
      | (rw [if_pos (by rfl)]; refine wp_append_own _ _ _ 284 rfl (w0.heap.size + 2) 287 i0 _ 4 48 under_reasons hi0 hz0 hz1 hz2 rfl (by decide) _ _ _ rfl (hw5.alloc _) ⟨w5.heap.size, 0, none⟩ 1 1 (reasonCs ((⟨1, (con : Int), C⟩, h), .slice ac (List.length C) cc)) rfl rfl (reason_laid w5 ((⟨1, (con : Int), C⟩, h), .slice ac (List.length C) cc)) (by intro u hu; simp [reasonCs] at hu; rcases hu with rfl | rfl | rfl | rfl <;> rfl) ?_ ?_ ?_ ?_; (unfold maxLen; omega); omega; (have := hB5.size; simp; omega); intro v6 w6 hown6 hg6 _; have hP := ReaS.push (x := ((⟨1, (con : Int), C⟩, h), .slice ac (List.length C) cc)) HSV.out (hB5.alloc hB5.size (.cells #[.int .i64 1, .int .i64 con, .slice ac (List.length C) cc, .int .u64 (h : Int)] 287)) (own_below HXV.out (hB5.alloc hB5.size _)) hg6 rfl hown6; have hk6 := blk_grown (HSV.out.below (hB5.alloc hB5.size (.cells #[.int .i64 1, .int .i64 con, .slice ac (List.length C) cc, .int .u64 (h : Int)] 287))).blk hg6 (hw5.alloc _) (by decide); obtain ⟨a9, b9, hv9⟩ := own_form hown6; subst hv9; have d2 : w6.cell? ⟨w0.heap.size + 1, 0, none⟩ = some (.slice ao L.length co) := blk9 hk6 0 _ rfl; have z2 : w6.frozen? ⟨w0.heap.size + 1, 0, none⟩ = false := frz9 hk6 0)
      | (rw [if_pos (by rfl)]; go_simp; go_at_call 128; refine (HHE.out _ (Below.refl _ _).drew).mono ?_; rintro e w5 ⟨rfl, hb5⟩; have hB5 : Below V.heap.size V w5 := (Below.refl _ _).drew.trans hb5; have c5 : w5.cell? ⟨w0.heap.size + 1, 0, none⟩ = some (.slice ao L.length co) := (hB5.cell (p := ⟨w0.heap.size + 1, 0, none⟩) vl1).trans k4; have u0 := (hB5.cell (p := ⟨B, 0, none⟩) vlB).trans t0; have u1 := (hB5.cell (p := ⟨B, 1, none⟩) vlB).trans t1; have u2 := (hB5.cell (p := ⟨B, 2, none⟩) vlB).trans t2; have hw5 : w5.ownsRow (w0.heap.size + 2) 287 4 (.slice ao L.length co) L.length (L.map reasonCs).flatten := own_below HSV.out.own hB5; have l5 : w0.heap.size + 1 < w5.heap.size := Nat.lt_of_lt_of_le vl1 hB5.size; have lB5 : B < w5.heap.size := Nat.lt_of_lt_of_le vlB hB5.size; dsimp only))
  all_goals
    have HF : Hid (Fr (fun k => k = w0.heap.size + 1 ∨ (Value.slice ao L.length co).ownBlock = some k) w _) := (Fr.below HBV.out).trans hP.2
    go_wp2
    go_end0
    exact ⟨rfl, _, _, rfl, hP.1, HF.out⟩
end Go.Proofs.YtdjbejlbmaiocagGreatDoor
/-
  WALKS: package follow: reasons.
-/
namespace Go.Proofs.YtdjbejlbmaiocagGreatDoor
open Go.RowKit

theorem fr_cell {X : Nat → Prop} {w w' : World} {b : Nat} {cs : Array Value} {t : TypeId} (hf : Fr X w w') (hb : w.heap[b]? = some (.cells cs t)) (hx : ¬ X b) : w'.heap[b]? = some (.cells cs t) :=
  (hf.block b (Array.getElem?_eq_some_iff.1 hb).1 hx).trans hb
theorem reasons_single1 (vs : List MVar) (pt : List (List Nat)) (con b : Nat) (pts : List Nat) (h : pt[con]? = some pts) : reasonsT vs pt (con, b, 0) = [reasonOf vs con (whyP vs pts [] (lessN (wholeP vs) b))] := by
  unfold reasonsT
  rw [if_pos rfl]
  simp only [List.getD_eq_getElem?_getD, h]; rfl
theorem reasons_many (vs : List MVar) (pt : List (List Nat)) (con b a : Nat) (ha : a ≠ 0) (pts : List Nat) (h : pt[con]? = some pts) : reasonsT vs pt (con, b, a) = (litsP vs (lessN b a)).map fun l => reasonOf vs con (whyP vs pts [⟨l.var, 4, l.n⟩] (lessN (wholeP vs) b)) := by
  unfold reasonsT
  rw [if_neg ha]
  simp only [List.getD_eq_getElem?_getD, h]; rfl
theorem enters_radd (args : Array Value) (w' : World) : Sem.run Tryz.prog (callFunc 284 args) w' = .ok (.enter 284 args) w' := by
  simp [callFunc, go_sem, Tryz.func284, Tryz.f284]

set_option maxHeartbeats 6400000 in
set_option maxRecDepth 100000 in
theorem rtell_any (vs : List MVar) (hva : VarsAll vs) (pt : List (List Nat)) (cs : List Nat) (r : Nat) (sv pv cv : Value) (w0 : World) (hR : RulesAt w0 r sv pv cv vs pt cs) (con b a : Nat) (hcon : con < pt.length) (hbw : ∀ i, b.testBit i = true → (wholeP vs).testBit i = true) (hab : ∀ i, a.testBit i = true → b.testBit i = true)
    (ov : Value) (L : List RV) (hLL : L.length ≤ 7000) (w : World) (hS : ReaS w0 r w ov L) :
    Calls Tryz.prog 283 #[.int .i64 con, .int .u64 b, .int .u64 a, .pointer (some ⟨w0.heap.size, 0, none⟩), .pointer (some ⟨w0.heap.size + 1, 0, none⟩)] w fun e w' => e = .returned (.tuple #[]) ∧
      ∃ ov' L', L'.map (·.1) = reasonsT vs pt (con, b, a) ∧ ReaS w0 r w' ov' (L ++ L') := by
  obtain ⟨pts, hpts⟩ : ∃ pts, pt[con]? = some pts := ⟨pt[con], by simp [hcon]⟩
  have HP : Hid (pt[con]? = some pts) := hpts
  have HRL : Hid (RulesAt w0 r sv pv cv vs pt cs) := hR
  have HS : Hid (ReaS w0 r w ov L) := hS
  have HVO : Hid (VarsAll vs) := hva
  have HBW : Hid (∀ i, b.testBit i = true → (wholeP vs).testBit i = true) := hbw
  have HW36 : Hid (wholeP vs < 2 ^ 36) := of_lt vs hva.1 _
  have HB36 : Hid (b < 2 ^ 36) := Nat.lt_of_le_of_lt (Nat.le_of_testBit hbw) HW36.out
  have HA36 : Hid (a < 2 ^ 36) := Nat.lt_of_le_of_lt (Nat.le_of_testBit hab) HB36.out
  obtain ⟨q, hq⟩ : ∃ q, wholeP vs = q := ⟨_, rfl⟩
  have HQ : Hid (wholeP vs = q) := hq
  obtain ⟨g0, hg0⟩ : ∃ g0, lessN (wholeP vs) b = g0 := ⟨_, rfl⟩
  have hbits := bits_andNot_u64 (wholeP vs) b (by have := HW36.out; omega) (by have := HB36.out; omega)
  rw [hg0, hq] at hbits
  have HGW : Hid (∀ i, g0.testBit i = true → (wholeP vs).testBit i = true) := fun i hi => by
    rw [← hg0, testBit_less, Bool.and_eq_true] at hi
    exact hi.1
  have HG : Hid (lessN (wholeP vs) b = g0) := hg0
  have hRW := RulesAt.below hS.fr hR
  have r0 := hRW.c0
  have rl := hRW.lt
  have hb1 : w.cell? ⟨w0.heap.size, 0, none⟩ = some (.pointer (some ⟨r, 0, none⟩)) := blk9 hS.blk0 0 _ rfl
  have hl0 : w0.heap.size < w.heap.size := (Array.getElem?_eq_some_iff.1 hS.blk0).1
  obtain ⟨a1, c1, rfl, _, _⟩ := hRW.hv
  obtain ⟨RT, hRT⟩ : ∃ RT, reasonsT vs pt (con, b, a) = RT := ⟨_, rfl⟩
  have HRT : Hid (reasonsT vs pt (con, b, a) = RT) := hRT
  rw [hRT]
  have HRV : Hid (∀ Y, Below w.heap.size w Y → RulesAt Y r (.slice a1 (List.length vs) c1) pv cv vs pt cs) := fun Y hY => RulesAt.below hY hRW
  clear hva hbw hab hS hR hRW hpts hq hg0 hRT
  go_enter Tryz.func283, Tryz.ntmps283
  go_wp2_with fail
  refine (whole_any vs HVO.out _ _ (HRV.out _ (below_alloc _ _)).hv).mono ?_
  rintro e w1 ⟨rfl, hb2⟩
  rw [HQ.out]
  have HB1 : Hid (Below w.heap.size w w1) := (below_alloc _ _).trans (hb2.mono (by simp))
  have HBC : Hid (w1.heap[w.heap.size]? = some (.cells #[.int .i64 (con : Int)] 3)) := (hb2.block w.heap.size (by simp)).trans (heap_alloc_new w _)
  clear hb2 r0 rl hb1 hl0
  by_cases ha0 : a = 0
  · subst ha0
    have HE : Hid (RT = [reasonOf vs con (whyP vs pts [] g0)]) := by show _ = _; rw [← HRT.out, reasons_single1 vs pt con b pts HP.out, HG.out]
    go_wp2_with fail
    have HB3 : Hid (Below w.heap.size w (w1.alloc (.cells #[.int .u64 (g0 : Int)] 183))) := HB1.out.alloc HB1.out.size _
    refine (radd_any vs HVO.out pt cs r _ pv cv w0 HRL.out con pts HP.out g0 HGW.out [] (by simp) (.slice none 0 0) w.heap.size w1.heap.size ov L (by omega) _ (HS.out.below HB3.out) (nil_cla _) ?_ ?_ ?_ ?_).mono ?_
    · exact blk9 (((below_alloc w1 _).block w.heap.size (Array.getElem?_eq_some_iff.1 HBC.out).1).trans HBC.out) 0 _ rfl
    · exact World.cell?_alloc_at _ _ _ 0 (by simp)
    · have := (Array.getElem?_eq_some_iff.1 HBC.out).1
      simp; omega
    · simp
    rintro e w4 ⟨rfl, ov', x, hx, hS4, hf4⟩
    have HF : Hid (ReaS w0 r w4 ov' (L ++ [x])) := hS4
    have HX : Hid ([x].map (·.1) = RT) := by show _ = _; rw [HE.out, ← hx]; rfl
    clear hS4 hf4 hx
    go_wp2
    refine bodyPost_ret (results_none rfl _ _ _) rfl ?_
    exact ⟨rfl, ov', [x], HX.out, HF.out⟩
  · have HE : Hid (RT = (litsP vs (lessN b a)).map fun l => reasonOf vs con (whyP vs pts [⟨l.var, 4, l.n⟩] g0)) := by show _ = _; rw [← HRT.out, reasons_many vs pt con b a ha0 pts HP.out, HG.out]
    have ha1 : ((a : Int) == 0) = false := by simpa using ha0
    have hnt := bits_andNot_u64 b a (by have := HB36.out; omega) (by have := HA36.out; omega)
    obtain ⟨d, hd⟩ : ∃ d, lessN b a = d := ⟨_, rfl⟩
    have HDW : Hid (∀ i, d.testBit i = true → (wholeP vs).testBit i = true) := fun i hi => by
      rw [← hd, testBit_less, Bool.and_eq_true] at hi
      exact HBW.out i hi.1
    rw [hd] at hnt HE
    obtain ⟨l, hl⟩ : ∃ l, litsP vs d = l := ⟨_, rfl⟩
    have HLD : Hid (litsP vs d = l) := hl
    have hl36 : l.length ≤ 36 := by rw [← hl]; exact lits_len vs d
    rw [hl] at HE
    clear hd hl ha0
    have HB3 : Hid (Below w.heap.size w (w1.alloc (.cells #[.int .u64 (g0 : Int)] 183))) := HB1.out.alloc HB1.out.size _
    have HBG : Hid ((w1.alloc (.cells #[.int .u64 (g0 : Int)] 183)).heap[w1.heap.size]? = some (.cells #[.int .u64 (g0 : Int)] 183)) := heap_alloc_new w1 _
    have HBC2 : Hid ((w1.alloc (.cells #[.int .u64 (g0 : Int)] 183)).heap[w.heap.size]? = some (.cells #[.int .i64 (con : Int)] 3)) := ((below_alloc w1 _).block w.heap.size (Array.getElem?_eq_some_iff.1 HBC.out).1).trans HBC.out
    obtain ⟨G, hG⟩ : ∃ G, w1.heap.size = G := ⟨_, rfl⟩
    obtain ⟨V, hV⟩ : ∃ V, w1.alloc (.cells #[.int .u64 (g0 : Int)] 183) = V := ⟨_, rfl⟩
    go_upto_region 5 with (fail)
    rw [hG] at HBG
    rw [hV] at HB3 HBG HBC2
    have b1 : V.cell? ⟨w0.heap.size, 0, none⟩ = some (.pointer (some ⟨r, 0, none⟩)) := blk9 (HS.out.below HB3.out).blk0 0 _ rfl
    have r0 := (HRV.out _ HB3.out).c0
    clear hG hV
    go_wp2_with fail
    refine (flits_any vs HVO.out d HDW.out _ _ (HRV.out _ HB3.out).hv (HRV.out _ HB3.out).tab).mono ?_
    rintro e w5 ⟨y, rfl, hy, hb5⟩
    rw [HLD.out] at hy
    have HY : Hid (LArg w5 y l) := hy.arg
    have HYO : Hid (LOwn V.heap.size w5 y l) := hy
    have HB5 : Hid (Below V.heap.size V w5) := hb5
    obtain ⟨ay, cy, rfl⟩ := own_form (show w5.ownsRow _ _ _ _ _ _ from hy)
    have HYB : Hid (∀ g, (Value.slice ay l.length cy).ownBlock = some g → w0.heap.size + 2 ≤ g) := fun g hg => by have h1 := ((show w5.ownsRow _ _ _ _ _ _ from hy).lt g hg).1; have h2 := (Array.getElem?_eq_some_iff.1 (HS.out.below HB3.out).blk).1; omega
    clear hy hb5 b1 r0
    go_wp2_with fail
    go_loopw [33] (fun i wr => ∃ (k : Nat), k ≤ l.length ∧ i = .int .i64 k ∧ Hid (∃ (ov2 : Value) (L2 : List RV), Hid (L2.map (·.1) = RT.take k) ∧ Hid (ReaS w0 r wr ov2 (L ++ L2)) ∧ Hid (LOwn (w0.heap.size + 2) wr (.slice ay l.length cy) l) ∧ Hid (wr.heap[w.heap.size]? = some (.cells #[.int .i64 (con : Int)] 3)) ∧ Hid (wr.heap[G]? = some (.cells #[.int .u64 (g0 : Int)] 183)))) (fun i _ => l.length - (intOf i).toNat)
    case atStart =>
      refine ⟨0, by omega, rfl, ov, [], rfl, ?_, own_lower ?_ HYO.out, (HB5.out.block _ (Array.getElem?_eq_some_iff.1 HBC2.out).1).trans HBC2.out, (HB5.out.block _ (Array.getElem?_eq_some_iff.1 HBG.out).1).trans HBG.out⟩
      · rw [List.append_nil]; exact (HS.out.below HB3.out).below HB5.out
      · have := (Array.getElem?_eq_some_iff.1 (HS.out.below HB3.out).blk).1; omega
    case round =>
      obtain ⟨k, hk, rfl, hrest⟩ := hrel
      obtain ⟨ov2, L2, hmp, hS2, hown, hbc, hbg⟩ := hrest.out
      clear hrest
      have HLL2 : Hid (L2.length = k) := by
        have h1 := congrArg List.length hmp.out
        rw [List.length_map, List.length_take, HE.out, List.length_map] at h1
        show _ = _
        omega
      by_cases hlt : k < l.length
      · obtain ⟨t, ht⟩ : ∃ t, l[k]? = some t := ⟨l[k], by simp [hlt]⟩
        obtain ⟨q2, c2, he2, _, hr2⟩ := hown.out.arg
        injection he2 with he2 he3 he4
        clear he3 he4
        obtain ⟨b2, o2, hq2, hlt2, t0, t1, t2⟩ := hr2 k t ht
        rw [hq2] at he2
        have HRTK : Hid (RT[k]? = some (reasonOf vs con (whyP vs pts [⟨t.var, 4, t.n⟩] g0))) := by show _ = _; rw [HE.out, List.getElem?_map, ht]; rfl
        subst he2
        clear hr2 ht
        have HBA : Hid (Below wr.heap.size wr ((wr.alloc (.cells #[.int .i64 t.var, .int .i64 t.op, .int .i64 t.n] 88)).alloc (.cells #[.int .i64 t.var, .int .i64 4, .int .i64 t.n] 88))) := (below_alloc _ _).alloc (by simp) _
        have HLA : Hid (LArg ((wr.alloc (.cells #[.int .i64 t.var, .int .i64 t.op, .int .i64 t.n] 88)).alloc (.cells #[.int .i64 t.var, .int .i64 4, .int .i64 t.n] 88)) (.slice (some ⟨wr.heap.size + 1, 0, none⟩) 1 1) [⟨t.var, 4, t.n⟩]) := by
          have h1 : LOwn (wr.heap.size + 1) ((wr.alloc (.cells #[.int .i64 t.var, .int .i64 t.op, .int .i64 t.n] 88)).alloc (.cells #[.int .i64 t.var, .int .i64 4, .int .i64 t.n] 88)) (.slice (some ⟨wr.heap.size + 1, 0, none⟩) 1 1) [⟨t.var, 4, t.n⟩] := by
            have h2 := World.ownsRow_lit (base := wr.heap.size + 1) (e := 88) (size := 3) (wr.alloc (.cells #[.int .i64 t.var, .int .i64 t.op, .int .i64 t.n] 88)) #[.int .i64 t.var, .int .i64 4, .int .i64 t.n] 1 (by simp) (by unfold maxLen; omega) rfl
            rw [World.size_alloc] at h2
            exact h2
          exact h1.arg
        go_wp2_with fail
        have HSA := HBA.out.size
        refine (radd_any vs HVO.out pt cs r _ pv cv w0 HRL.out con pts HP.out g0 HGW.out [⟨t.var, 4, t.n⟩] (by simp) _ w.heap.size G ov2 (L ++ L2) (by rw [List.length_append, HLL2.out]; omega) _ (hS2.out.below HBA.out) HLA.out ?_ ?_ ?_ ?_).mono ?_
        · exact blk9 ((HBA.out.block _ (Array.getElem?_eq_some_iff.1 hbc.out).1).trans hbc.out) 0 _ rfl
        · exact blk9 ((HBA.out.block _ (Array.getElem?_eq_some_iff.1 hbg.out).1).trans hbg.out) 0 _ rfl
        · exact Nat.lt_of_lt_of_le (Array.getElem?_eq_some_iff.1 hbc.out).1 HBA.out.size
        · exact Nat.lt_of_lt_of_le (Array.getElem?_eq_some_iff.1 hbg.out).1 HBA.out.size
        rintro e w6 ⟨rfl, ov6, x6, hx6, hS6, hf6⟩
        have HNX1 : Hid (¬ (fun k => k = w0.heap.size + 1 ∨ ov2.ownBlock = some k) w.heap.size) := fun hq => by
          rcases hq with hq | hq
          · have h1 := hS2.out.blk; rw [← hq, hbc.out] at h1; injection h1 with h1; injection h1 with _ h2; exact absurd h2 (by decide)
          · exact blk_not_own hS2.out.own hbc.out (by decide) hq
        have HNX2 : Hid (¬ (fun k => k = w0.heap.size + 1 ∨ ov2.ownBlock = some k) G) := fun hq => by
          rcases hq with hq | hq
          · have h1 := hS2.out.blk; rw [← hq, hbg.out] at h1; injection h1 with h1; injection h1 with _ h2; exact absurd h2 (by decide)
          · exact blk_not_own hS2.out.own hbg.out (by decide) hq
        have HF6 : Hid (Fr (fun k => k = w0.heap.size + 1 ∨ ov2.ownBlock = some k) wr w6) := (Fr.below HBA.out).trans hf6
        have HS6 : Hid (ReaS w0 r w6 ov6 (L ++ (L2 ++ [x6]))) := by rw [← List.append_assoc]; exact hS6
        have HM6 : Hid ((L2 ++ [x6]).map (·.1) = RT.take (k + 1)) := by show _ = _; rw [List.map_append, hmp.out, List.take_add_one, HRTK.out, ← hx6]; rfl
        have HO6 : Hid (LOwn (w0.heap.size + 2) w6 (.slice (some ⟨b2, o2, none⟩) l.length cy) l) := own_frx hown.out HF6.out fun g hg hX => by
          rcases hX with hX | hX
          · have := ((show wr.ownsRow _ _ _ _ _ _ from hown.out).lt g hg).1; omega
          · rcases own_apart (show wr.ownsRow _ _ _ _ _ _ from hown.out) hS2.out.own (by decide) with h1 | h1
            · rw [h1] at hg; cases hg
            · exact h1 (by rw [hg, hX])
        have HC6 : Hid (w6.heap[w.heap.size]? = some (.cells #[.int .i64 (con : Int)] 3)) := fr_cell HF6.out hbc.out HNX1.out
        have HG6 : Hid (w6.heap[G]? = some (.cells #[.int .u64 (g0 : Int)] 183)) := fr_cell HF6.out hbg.out HNX2.out
        clear hS6 hf6 hx6
        go_wp2
        go_roundw
        case rel => exact ⟨k + 1, by omega, by go_num, ov6, L2 ++ [x6], HM6, HS6, HO6, HC6, HG6⟩
        case measure => simp [intOf]; omega
      · have HFM : Hid (L2.map (·.1) = RT) := by
          have h1 := hmp.out
          rw [List.take_of_length_le (by rw [HE.out, List.length_map]; omega)] at h1
          exact h1
        go_wp2
        go_end0
        exact ⟨rfl, ov2, L2, HFM.out, hS2.out⟩
end Go.Proofs.YtdjbejlbmaiocagGreatDoor
/-
  WALKS: package follow: reasons, and whether they are enough.
-/
namespace Go.Proofs.YtdjbejlbmaiocagGreatDoor
open Go.RowKit

theorem reasonsT_len (vs : List MVar) (pt : List (List Nat)) (t : Nat × Nat × Nat) : (reasonsT vs pt t).length ≤ 36 := by
  unfold reasonsT
  split
  · simp
  · rw [List.length_map]; exact lits_len _ _
theorem enters_rtell (args : Array Value) (w' : World) : Sem.run Tryz.prog (callFunc 283 args) w' = .ok (.enter 283 args) w' := by
  simp [callFunc, go_sem, Tryz.func283, Tryz.f283]
/-- What is gathered so far. -/
def ReaI (vs : List MVar) (pt : List (List Nat)) (w0 : World) (r : Nat) (T : List (Nat × Nat × Nat)) (w : World) : Prop :=
  ∃ ov L, ReaS w0 r w ov L ∧ L.map (·.1) = T.flatMap (reasonsT vs pt) ∧ L.length ≤ 36 * T.length ∧ T.length ≤ 37
theorem teller_reasons (vs : List MVar) (hva : VarsAll vs) (pt : List (List Nat)) (cs : List Nat) (r : Nat) (sv pv cv : Value) (w0 : World) (hR : RulesAt w0 r sv pv cv vs pt cs) :
    Teller 283 #[.pointer (some ⟨w0.heap.size, 0, none⟩), .pointer (some ⟨w0.heap.size + 1, 0, none⟩)] vs pt (ReaI vs pt w0 r) := by
  refine ⟨enters_rtell, fun T w w' h hb => ?_, fun T con b a w h hT hcon hbw hab => ?_⟩
  · obtain ⟨ov, L, h1, h2⟩ := h
    exact ⟨ov, L, h1.below hb, h2⟩
  · obtain ⟨ov, L, h1, h2, h3, h4⟩ := h
    refine (rtell_any vs hva pt cs r sv pv cv w0 hR con b a hcon hbw hab ov L (by omega) w h1).mono ?_
    rintro e w' ⟨rfl, ov', L', h5, h6⟩
    refine ⟨rfl, ov', L ++ L', h6, ?_, ?_, ?_⟩
    · rw [List.map_append, h2, h5, List.flatMap_append]; simp
    · have h7 := congrArg List.length h5
      rw [List.length_map] at h7
      have h8 := reasonsT_len vs pt (con, b, a)
      rw [List.length_append, List.length_append, List.length_singleton]
      omega
    · rw [List.length_append, List.length_singleton]; omega

set_option maxHeartbeats 1600000 in
set_option maxRecDepth 100000 in
theorem reasons_any (vs : List MVar) (hva : VarsAll vs) (hn1 : 1 ≤ vs.length) (pt : List (List Nat)) (cs : List Nat) (h : Nat) (hh : h < 2 ^ 36) (r : Nat) (sv pv cv : Value) (w : World) (hR : RulesAt w r sv pv cv vs pt cs) :
    Calls Tryz.prog 256 #[.pointer (some ⟨r, 0, none⟩), .int .u64 h] w fun e w' => ∃ v L, e = .returned v ∧ L.map (·.1) = reasonsP vs cs pt h ∧ ROwn w.heap.size w' v L ∧ (∀ x ∈ L, LOwn w.heap.size w' x.2 x.1.1.cla) ∧ L.length ≤ 1400 ∧ Below w.heap.size w w' := by
  have HR : Hid (RulesAt w r sv pv cv vs pt cs) := hR
  have HVO : Hid (VarsAll vs) := hva
  have H1 : Hid (1 ≤ vs.length) := hn1
  have HH : Hid (h < 2 ^ 36) := hh
  have HI : Hid (ReaI vs pt w r [] ((w.alloc (.cells #[.pointer (some ⟨r, 0, none⟩)] 117)).alloc (.cells #[.slice none 0 0] 284))) := by
    refine ⟨.slice none 0 0, [], ⟨?_, ?_, World.ownsRow_nil _ _ _ _, (fun x hx => by cases hx), ?_⟩, rfl, by simp, by simp⟩
    · exact ((below_alloc (w.alloc (.cells #[.pointer (some ⟨r, 0, none⟩)] 117)) (.cells #[.slice none 0 0] 284)).block w.heap.size (by simp)).trans (heap_alloc_new w _)
    · have h := heap_alloc_new (w.alloc (.cells #[.pointer (some ⟨r, 0, none⟩)] 117)) (.cells #[.slice none 0 0] 284)
      rw [World.size_alloc] at h
      exact h
    · exact (below_alloc _ _).alloc (by simp) _
  clear hR hva hn1 hh
  go_enter Tryz.func256, Tryz.ntmps256
  go_wp2_with fail
  refine (narrow_any vs HVO.out H1.out cs pt h HH.out r sv pv cv _ _ (ReaI vs pt w r) (teller_reasons vs HVO.out pt cs r sv pv cv w HR.out) (fun T Y hY => by obtain ⟨ov, L, h1, _⟩ := hY; exact RulesAt.below h1.fr HR.out) _ HI.out).mono ?_
  rintro e w2 ⟨rfl, ov, L, hS, hmp, hl1, hl2⟩
  have HS : Hid (ReaS w r w2 ov L) := hS
  have HMP : Hid (L.map (·.1) = reasonsP vs cs pt h) := hmp
  have HLL : Hid (L.length ≤ 1400) := by show _ ≤ _; omega
  have k0 : w2.cell? ⟨w.heap.size + 1, 0, none⟩ = some ov := blk9 hS.blk 0 _ rfl
  obtain ⟨ao, co, rfl⟩ := own_form (show w2.ownsRow _ _ _ _ _ _ from hS.own)
  clear hS hmp hl1 hl2
  go_wp2
  go_ret
  exact ⟨_, L, rfl, HMP.out, rown_lower (by omega) HS.out.own, fun x hx => own_lower (by omega) (HS.out.cl x hx), HLL.out, HS.out.fr⟩

set_option maxHeartbeats 800000 in
set_option maxRecDepth 100000 in
theorem clone_parts (l : List Nat) (hl : l.length ≤ 200000) (u : Value) (w : World) (hu : PArg w u l) :
    Calls Tryz.prog 254 #[u] w fun e w' => ∃ x, e = .returned x ∧ w'.ownsRow w.heap.size 183 1 x l.length (u64s l) ∧ Below w.heap.size w w' := by
  obtain ⟨i0, hi0, hz0, hz1, hz2⟩ := info_parts Tryz.infoPart
  have HU : Hid (∀ w', Below w.heap.size w w' → PArg w' u l) := fun w' h => PArg.below h hu
  have q22 : ∀ (w : World) (a : Option Addr) (n c n' c' : Nat), (binOp .eql 180 (.slice a n c) (.slice none n' c')).run Tryz.prog w = .ok (.bool a.isNone) w := fun w a n c n' c' => Lib.run_eql_slice_nil w _ _ a n c n' c' Tryz.underPart
  obtain ⟨a, c, rfl, hm, hr⟩ := hu
  cases a with
  | none =>
    have : l = [] := by
      cases l with
      | nil => rfl
      | cons z r => obtain ⟨_, b, off, hq, _⟩ := hr 0 z rfl; cases hq
    subst this
    clear HU
    go_enter Tryz.func254, Tryz.ntmps254
    go_wp2
    go_ret
    exact ⟨_, rfl, World.ownsRow_nil _ _ _ _, Below.refl _ _⟩
  | some ad =>
    have HL : Hid (l.length ≤ 200000) := hl
    have HC : Hid (∀ (j : Nat) (u : Value), (u64s l)[j]? = some u → (w.alloc (.cells #[] 183)).cell? (ad.add j) = some u) := fun j y hy => by
      unfold u64s at hy
      rw [List.getElem?_map] at hy
      cases hz : l[j]? with
      | none => rw [hz] at hy; cases hy
      | some z =>
        rw [hz] at hy
        obtain ⟨_, b, off, hq, hlt, hc⟩ := hr j z hz
        cases hq
        rw [add_at]
        have : y = .int .u64 (z : Int) := by simpa using hy.symm
        rw [this]
        exact ((below_alloc w _).cell (p := ⟨b, off + j, none⟩) hlt).trans hc
    have H1 : Hid (∀ u ∈ u64s l, u.oneCell' = true) := fun u hu => by
      obtain ⟨z, _, rfl⟩ := List.mem_map.1 hu
      rfl
    have HFL : Hid ((u64s l).length = l.length * 1) := by show _ = _; unfold u64s; simp
    have HM0 : Hid ((w.alloc (.cells #[] 183)).ownsRow w.heap.size 183 1 (.slice (some ⟨w.heap.size, 0, none⟩) 0 0) 0 []) := World.ownsRow_made w #[] 0 (Nat.le_refl _) (Nat.zero_le _) (by simp)
    clear hl hr hm
    go_enter Tryz.func254, Tryz.ntmps254
    go_wp2_with (at_builtin; refine wpList_append_own _ rfl _ _ 180 rfl w.heap.size 183 i0 (.int .u64 0) 1 8 Tryz.underPart hi0 hz0 hz1 hz2 rfl (by decide) _ _ _ rfl HM0.out ad l.length c (u64s l) rfl HFL.out HC.out H1.out ?c1 ?c2 ?c3 ?_)
    case c1 => have := HL.out; unfold maxLen; omega
    case c2 => have := HL.out; omega
    case c3 => simp
    intro v3 w3 hown3 hgrow _
    have HB3 : Hid (Below w.heap.size w w3) := (below_alloc _ _).grown hgrow (by simp) (by intro k hk; simp [Value.ownBlock] at hk; omega)
    have HO3 : Hid (w3.ownsRow w.heap.size 183 1 v3 l.length (u64s l)) := by show World.ownsRow _ _ _ _ _ _ _; simpa using hown3
    obtain ⟨av, cv, rfl⟩ := own_form hown3
    clear hown3 hgrow
    go_wp2
    go_ret
    exact ⟨_, by simp, HO3.out, HB3.out⟩
theorem reason_cells {w : World} {v : Value} {c : List RV} (h : RvArg w v c) (k : Nat) (x : RV) (hx : c[k]? = some x) : ∃ a n cc b off, v = .slice a n cc ∧ n = c.length ∧ n ≤ cc ∧ cc ≤ maxLen ∧ a = some ⟨b, off, none⟩ ∧ b < w.heap.size ∧
    w.cell? ⟨b, off + k * 4, none⟩ = some (.int .i64 x.1.1.kind) ∧ w.cell? ⟨b, off + k * 4 + 1, none⟩ = some (.int .i64 x.1.1.con) ∧ w.cell? ⟨b, off + k * 4 + 2, none⟩ = some x.2 ∧ w.cell? ⟨b, off + k * 4 + 3, none⟩ = some (.int .u64 (x.1.2 : Int)) := by
  obtain ⟨a, cc, hv, hm, hr⟩ := h
  have hk : k < c.length := (List.getElem?_eq_some_iff.1 hx).1
  have hw := reasons_wide c
  have get : ∀ (j : Nat) (u : Value), j < 4 → (reasonCs x)[j]? = some u → ((c.map reasonCs).flatten)[k * 4 + j]? = some u := by
    intro j u hj hu
    have h1 : (((c.map reasonCs).flatten).drop (k * 4))[j]? = some u := by
      rw [flat_drop 4 k _ hw, ← List.map_drop, List.drop_eq_getElem_cons hk]
      have e : c[k] = x := by rw [List.getElem?_eq_getElem hk] at hx; exact Option.some.inj hx
      rw [List.map_cons, List.flatten_cons, e, List.getElem?_append_left (by show j < 4; exact hj)]
      exact hu
    rw [List.getElem?_drop] at h1
    exact h1
  obtain ⟨b, off, ha, hlt, c0⟩ := hr _ _ (get 0 _ (by omega) rfl)
  obtain ⟨b1, o1, ha1, _, c1⟩ := hr _ _ (get 1 _ (by omega) rfl)
  obtain ⟨b2, o2, ha2, _, c2⟩ := hr _ _ (get 2 _ (by omega) rfl)
  obtain ⟨b3, o3, ha3, _, c3⟩ := hr _ _ (get 3 _ (by omega) rfl)
  rw [ha] at ha1 ha2 ha3
  cases ha1; cases ha2; cases ha3
  rw [List.length_map] at hv hm
  exact ⟨a, _, cc, b, off, hv, rfl, hm.1, hm.2, ha, hlt, c0, by rw [Nat.add_assoc]; exact c1, by rw [Nat.add_assoc]; exact c2, by rw [Nat.add_assoc]; exact c3⟩
end Go.Proofs.YtdjbejlbmaiocagGreatDoor
