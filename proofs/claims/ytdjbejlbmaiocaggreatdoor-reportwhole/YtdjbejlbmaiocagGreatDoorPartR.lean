/-
  PART 18 of what the proof leans on (PrD, PrE, PrF, RefM, TxtW, ModU).
-/
import Derived.Test.YtdjbejlbmaiocagGreatDoorPartQ
import Derived.Deep.RegionHeld3
import Derived.Deep.RegionLaw
import Derived.Deep.DeepCutAuto
import Derived.Deep.CutBlock
/-
  WALKS: package text: the printer: a constraint.
-/
namespace Go.Proofs.YtdjbejlbmaiocagGreatDoor
open Go.RowKit

theorem call_below9 {w2 Y w3 : World} {A : Prop} (h : Below w2.heap.size w2 Y ∧ A) (hb : Below Y.heap.size Y w3) : Below w2.heap.size w2 w3 := h.1.trans (hb.mono h.1.size)
theorem alloc_below9 {w2 Y : World} {o : Obj} {A : Prop} (h : Below w2.heap.size w2 Y ∧ A) : Below w2.heap.size w2 (Y.alloc o) := h.1.alloc h.1.size o
/-- A list of strings that is one's own. -/
def SOwn (base : Nat) (w : World) (v : Value) (xs : List ByteArray) : Prop := w.ownsRow base 9 1 v xs.length (xs.map Value.string)
theorem SOwn.arg {base : Nat} {w : World} {v : Value} {xs : List ByteArray} (h : SOwn base w v xs) : SArg w v xs := by
  obtain ⟨a, c, rfl, h1, h2⟩ := row_open h
  refine ⟨a, c, rfl, h1, fun i z hz => ?_⟩
  obtain ⟨g, ha, hg, hc⟩ := h2 i (List.getElem?_eq_some_iff.1 hz).1
  refine ⟨g, 0, ha, hg, ?_⟩
  rw [Nat.zero_add, hc i (by have := (List.getElem?_eq_some_iff.1 hz).1; omega), List.getElem?_map, hz]
  rfl
theorem SOwn.new (xs : List ByteArray) (base n : Nat) (cs : Array Value) (w : World) (hb : base ≤ w.heap.size) (hn : xs.length = n) (h0 : n ≤ 1000) (hc : cs.toList = xs.map Value.string) : SOwn base (w.alloc (.cells cs 9)) (.slice (some ⟨w.heap.size, 0, none⟩) n n) xs := by
  subst hn
  have hsz : cs.size = xs.length := by rw [← Array.length_toList, hc, List.length_map]
  refine ⟨by simp, Or.inr ⟨w.heap.size, xs.length, cs, rfl, hb, heap_alloc_new _ _, Nat.le_refl _, by unfold maxLen; omega, by omega, ?_⟩⟩
  rw [hc]
  exact List.take_of_length_le (by simp)
theorem SOwn.below {base : Nat} {w w' : World} {v : Value} {xs : List ByteArray} (h : SOwn base w v xs) (hb : Below w.heap.size w w') : SOwn base w' v xs := own_below h hb
theorem iarg_cap {w : World} {a : Option Addr} {n c : Nat} {l : List Int} (h : IArg w (.slice a n c) l) : l.length ≤ c ∧ c ≤ maxLen := by
  obtain ⟨a', c', hv, hm, _⟩ := h
  cases hv
  exact hm
theorem IArg.at {w : World} {a : Option Addr} {n c : Nat} {l : List Int} (h : IArg w (.slice a n c) l) (z : Int) (hz : l[0]? = some z) : ∃ b off, a = some ⟨b, off, none⟩ ∧ b < w.heap.size ∧ w.cell? ⟨b, off, none⟩ = some (.int .i64 z) := by
  obtain ⟨a', c', hv, _, hr⟩ := h
  cases hv
  exact hr 0 z hz
theorem IArg.cell {w : World} {b off n c : Nat} {l : List Int} (h : IArg w (.slice (some ⟨b, off, none⟩) n c) l) (i : Nat) (z : Int) (hz : l[i]? = some z) : w.cell? ⟨b, off + i, none⟩ = some (.int .i64 z) := by
  obtain ⟨a', c', hv, _, hr⟩ := h
  cases hv
  obtain ⟨b', o', he, _, hc⟩ := hr i z hz
  cases he
  exact hc
theorem LArg.at {w : World} {a : Option Addr} {n c : Nat} {l : List MLit} (h : LArg w (.slice a n c) l) (z : MLit) (hz : l[0]? = some z) : ∃ b off, a = some ⟨b, off, none⟩ ∧ b < w.heap.size ∧ w.cell? ⟨b, off, none⟩ = some (.int .i64 z.var) ∧ w.cell? ⟨b, off + 1, none⟩ = some (.int .i64 z.op) ∧ w.cell? ⟨b, off + 2, none⟩ = some (.int .i64 z.n) := by
  obtain ⟨a', c', hv, _, hr⟩ := h
  cases hv
  have := hr 0 z hz
  simpa using this
theorem iarg_drop {w : World} {b off n c : Nat} {l : List Int} (h : IArg w (.slice (some ⟨b, off, none⟩) n c) l) (h1 : 1 ≤ l.length) : IArg w (.slice (some ⟨b, off + 1, none⟩) (n - 1) (c - 1)) (l.drop 1) := by
  obtain ⟨a', c', hv, hm, hr⟩ := h
  cases hv
  refine ⟨_, _, by rw [List.length_drop], ?_, fun i z hz => ?_⟩
  · rw [List.length_drop]; omega
  · rw [List.getElem?_drop] at hz
    obtain ⟨b', o', he, h2, hc⟩ := hr (1 + i) z hz
    cases he
    exact ⟨b, off + 1, rfl, h2, by rw [Nat.add_assoc]; exact hc⟩
theorem parts_ne {vars : List MVar} {c : MCon} (h : 1 ≤ c.kind ∧ c.kind ≤ 10) : partsB vars c ≠ [] := by
  unfold partsB
  split; · simp
  split; · simp
  split; · simp
  split; · simp
  split; · simp
  split; · simp
  split; · simp
  split; · simp
  omega
theorem strs_one9 (l : List ByteArray) : ∀ u ∈ l.map Value.string, u.oneCell' = true := by
  intro u hu
  obtain ⟨z, _, rfl⟩ := List.mem_map.1 hu
  rfl
theorem wp_append_strs {w : World} {o : Oper} {a : Act} {K : Act → World → Prop} {Q : Exit → Act → World → Prop} (s x : Operand)
    (ho : o.op = .call { callee := .builtin .append, args := #[s, x], argTypes := #[106, 106] }) (base : Nat)
    (v : Value) (xs : List ByteArray) (hs : a.eval s = v) (hown : SOwn base w v xs)
    (g cap n : Nat) (l : List ByteArray) (hx : a.eval x = .slice (some ⟨g, 0, none⟩) n cap) (base2 : Nat) (hl : SOwn base2 w (.slice (some ⟨g, 0, none⟩) n cap) l) (hn : xs.length + l.length ≤ 100000) (hbase : base ≤ w.heap.size)
    (h : ∀ v' w', SOwn base w' v' (xs ++ l) → w.grownBy w' v.ownBlock → K (a.put o.dst v') w') : o.wp Tryz.prog a w K Q := by
  obtain ⟨i0, hi, hz0, hz1, hz2⟩ := info_parts Tryz.infoStr5
  have hnl : n = l.length := by
    rcases hl.2 with ⟨hq, _⟩ | ⟨g', cap', cur, hq, _⟩
    · cases hq
    · cases hq; rfl
  subst hnl
  refine wp_append_own w s x 106 ho base 9 i0 (.string ⟨#[]⟩) 1 16 Tryz.underStrs5 hi hz0 hz1 hz2 rfl (by decide) v xs.length _ hs hown ⟨g, 0, none⟩ l.length cap (l.map Value.string) hx (by simp) ?_ (strs_one9 l) (by unfold maxLen; omega) (by omega) hbase ?_
  · exact World.ownsRow.cells hl rfl
  · intro v' w' h1 h2 h3
    exact h v' w' (by show w'.ownsRow _ _ _ _ _ _; rw [List.length_append, List.map_append]; exact h1) h2
theorem grown_below9 {w0 w w' : World} {g : Nat} (h : Below w0.heap.size w0 w) (hg : w.grownBy w' (some g)) (hN : w0.heap.size ≤ g) : Below w0.heap.size w0 w' :=
  Fr.toBelow ((Fr.below (X := fun k => w0.heap.size ≤ k) h).grown hg (fun k hk => by cases hk; exact Or.inl hN))
set_option maxHeartbeats 8000000 in
set_option maxRecDepth 100000 in
theorem prcon_any (N B b : Nat) (vsl : Value) (vars : List MVar) (c : MCon) (vv vc vr vl : Value) (l : List UInt8) (w : World) (h : PrS N B b vsl l w) (hv : VArg w vsl vars) (hk : KArg w vv vc vr vl c) (hs : Short vars) (hc : ConOk vars.length c) (hl : l.length ≤ 10000000) :
    Calls Tryz.prog 166 #[.pointer (some ⟨b, 0, none⟩), conV vv vc vr vl c] w fun e w' => e = .returned (.tuple #[]) ∧ PrS N B b vsl (l ++ conLine vars c) w' ∧ Fr (XBB b B) w w' := by
  have HP : Hid (PrS N B b vsl l w) := h
  have HVA : Hid (VArg w vsl vars) := hv
  have HKA : Hid (KArg w vv vc vr vl c) := hk
  have HS : Hid (Short vars) := hs
  have HC : Hid (ConOk vars.length c) := hc
  have hkd := hc.kind
  clear h hv hs hc
  obtain ⟨⟨a1, c1, rfl, _, _⟩, ⟨a2, c2, rfl, _, _⟩, ⟨a3, c3, rfl, _, _⟩, ⟨a4, c4, rfl, _, _⟩⟩ := hk
  unfold conV
  go_enter Tryz.func166, Tryz.ntmps166
  go_wp2_with fail
  obtain ⟨W, hW⟩ : ∃ W, W = w.alloc (.cells #[.int .i64 c.kind, .slice a1 c.vars.length c1, .slice a2 c.consts.length c2, .int .i64 c.n, .slice a3 c.rows.length c3, .slice a4 c.lits.length c4] 73) := ⟨_, rfl⟩
  have HBW : Hid (Below w.heap.size w W) := by show Below _ _ _; rw [hW]; exact below_alloc _ _
  have HQ : W.heap[w.heap.size]? = some (.cells #[.int .i64 c.kind, .slice a1 c.vars.length c1, .slice a2 c.consts.length c2, .int .i64 c.n, .slice a3 c.rows.length c3, .slice a4 c.lits.length c4] 73) := by rw [hW]; exact heap_alloc_new _ _
  rw [← hW]
  clear hW
  have hbw : b < w.heap.size := Nat.lt_of_lt_of_le HP.out.bB HP.out.Bw
  have hcv : w.cell? ⟨b, 2, none⟩ = some vsl := by
    obtain ⟨p, buf, _, hk, _⟩ := HP.out.blk
    exact blk9 hk 2 _ rfl
  have HM : Hid (c.vars.length ≤ 4 ∧ c.lits.length ≤ 4 ∧ c.consts.length ≤ 8 ∧ c.rows.length ≤ 20) := many_no HC.out.many
  have HX : Hid (∀ Y, Below w.heap.size w Y → PrS N B b vsl l Y ∧ TabN N Y ∧ Y.cell? ⟨b, 2, none⟩ = some vsl ∧ VArg Y vsl vars ∧ KArg Y (.slice a1 c.vars.length c1) (.slice a2 c.consts.length c2) (.slice a3 c.rows.length c3) (.slice a4 c.lits.length c4) c) := fun Y hY =>
    ⟨HP.out.below hY, HP.out.tab.below hY, (hY.cell (p := ⟨b, 2, none⟩) hbw).trans hcv, VArg.below hY HVA.out, KArg.below hY HKA.out⟩
  have HNL : Hid (∀ (q : List Int) (v : Value) (Y : World), Below w.heap.size w Y → IArg Y v q → q.length ≤ 4 → (∀ x ∈ q, 0 ≤ x ∧ x < (vars.length : Int)) →
      Calls Tryz.prog 230 #[v, .func (.func 168) #[.pointer (some ⟨b, 0, none⟩)] #[]] Y fun e w' => e = .returned (.string (brackB (q.map (nameOf vars)))) ∧ Below Y.heap.size Y w') := by
    intro q v Y hY hq hq4 hqv
    refine plist_int_p b 168 (nameOf vars) q v Y hq (by omega) ?_ enters_pname ?_
    · have h1 := nameL_size HS.out q 4 hq4
      rw [← len_size, brack_bytes] at h1
      simp only [List.length_cons, List.length_append] at h1
      omega
    · intro x hx w' hb
      have h2 := HX.out w' (hY.trans (hb.mono hY.size))
      refine (pname_any b vsl vars x w' h2.2.2.1 h2.2.2.2.1 (hqv x hx)).mono ?_
      rintro e w'' ⟨rfl, rfl⟩
      exact ⟨rfl, Below.refl _ _⟩
  clear hcv
  refine (HNL.out c.vars _ W HBW.out (HX.out W HBW.out).2.2.2.2.1 HM.out.1 HC.out.vars).mono ?_
  rintro e W1 ⟨rfl, hb1⟩
  have hlt : w.heap.size < W1.heap.size := Nat.lt_of_lt_of_le (Array.getElem?_eq_some_iff.1 HQ).1 hb1.size
  have HB1 : Hid (Below w.heap.size w W1) := HBW.out.trans (hb1.mono HBW.out.size)
  have HQ1 : W1.heap[w.heap.size]? = some (.cells #[.int .i64 c.kind, .slice a1 c.vars.length c1, .slice a2 c.consts.length c2, .int .i64 c.n, .slice a3 c.rows.length c3, .slice a4 c.lits.length c4] 73) := (hb1.block _ (Array.getElem?_eq_some_iff.1 HQ).1).trans HQ
  have k0 := blk9 HQ1 0 _ rfl
  have k1 := blk9 HQ1 1 _ rfl
  have k2 := blk9 HQ1 2 _ rfl
  have k3 := blk9 HQ1 3 _ rfl
  have k4 := blk9 HQ1 4 _ rfl
  have k5 := blk9 HQ1 5 _ rfl
  clear hb1 HQ HQ1 HBW
  go_upto_block 0 with (fail)
  go_cut [5] (fun v wx => SOwn W1.heap.size wx v (partsB vars c) ∧ Below W1.heap.size W1 wx)
  case first =>
    have HG : Hid (∀ Y, Below W1.heap.size W1 Y → PrS N B b vsl l Y ∧ TabN N Y ∧ Y.cell? ⟨b, 2, none⟩ = some vsl ∧ VArg Y vsl vars ∧ KArg Y (.slice a1 c.vars.length c1) (.slice a2 c.consts.length c2) (.slice a3 c.rows.length c3) (.slice a4 c.lits.length c4) c) := fun Y hY => HX.out Y (HB1.out.trans (hY.mono HB1.out.size))
    have HNS : Hid (∀ (Y : World) {A : Prop}, Below W1.heap.size W1 Y ∧ A → Calls Tryz.prog 231 #[.slice a2 c.consts.length c2] Y fun e w' => e = .returned (.string (numsB c.consts)) ∧ Below Y.heap.size Y w') := by
      intro Y A hY
      have h1 := HG.out Y hY.1
      refine pnumbers_any N c.consts _ Y h1.2.1 h1.2.2.2.2.2.1 (by have := HM.out; omega) ?_ (fun x hx => by have := HC.out.consts x hx; unfold okI; omega)
      have h2 := nums_size c.consts 8 HM.out.2.2.1 HC.out.consts
      unfold numsB at h2
      rw [← len_size, brack_bytes] at h2
      simp only [List.length_cons, List.length_append] at h2
      omega
    have HNN : Hid (∀ (Y : World) {A : Prop}, Below W1.heap.size W1 Y ∧ A → Calls Tryz.prog 165 #[.int .i64 c.n] Y fun e w' => e = .returned (.string (numB c.n)) ∧ Below Y.heap.size Y w') := fun Y A hY =>
      pnumber_any N c.n (by have := HC.out.num; unfold okI; omega) Y (HG.out Y hY.1).2.1
    have HNA : Hid (∀ (Y : World) {A : Prop}, Below W1.heap.size W1 Y ∧ A → ∀ x : Int, (0 ≤ x ∧ x < (vars.length : Int)) → Calls Tryz.prog 168 #[.pointer (some ⟨b, 0, none⟩), .int .i64 x] Y fun e w' => e = .returned (.string (nameOf vars x)) ∧ Below Y.heap.size Y w') := by
      intro Y A hY x hx
      have h2 := HG.out Y hY.1
      refine (pname_any b vsl vars x Y h2.2.2.1 h2.2.2.2.1 hx).mono ?_
      rintro e w'' ⟨rfl, rfl⟩
      exact ⟨rfl, Below.refl _ _⟩
    have HLI : Hid (∀ (Y : World) {A : Prop}, Below W1.heap.size W1 Y ∧ A → ∀ t : MLit, LitOk vars t → Calls Tryz.prog 234 #[.pointer (some ⟨b, 0, none⟩), litA t] Y fun e w' => e = .returned (.string (plitB vars t)) ∧ Below Y.heap.size Y w') := by
      intro Y A hY t ht
      have h2 := HG.out Y hY.1
      exact plit_any N b vsl vars t Y h2.2.1 h2.2.2.1 h2.2.2.2.1 ht.1 ht.2.1 (by have := ht.2.2; unfold okI; omega) (by have := short_name HS.out t.var; omega) (by have := num_size t.n (by have := ht.2.2; omega); omega)
    have HLL : Hid (Calls Tryz.prog 233 #[.slice a4 c.lits.length c4, .func (.func 234) #[.pointer (some ⟨b, 0, none⟩)] #[]] W1 fun e w' => e = .returned (.string (brackB (c.lits.map (plitB vars)))) ∧ Below W1.heap.size W1 w') := by
      refine plist_lits b 234 (plitB vars) c.lits _ W1 (HG.out _ (Below.refl _ _)).2.2.2.2.2.2.2 (by have := HM.out; omega) ?_ enters_plit ?_
      · have h2 := litL_size HS.out HC.out
        rw [← len_size, brack_bytes] at h2
        simp only [List.length_cons, List.length_append] at h2
        omega
      · intro t ht w' hb'
        exact HLI.out w' ⟨hb', trivial⟩ t (HC.out.lits t ht)
    have hcs : c.kind = 1 ∨ c.kind = 2 ∨ c.kind = 3 ∨ c.kind = 4 ∨ c.kind = 5 ∨ c.kind = 6 ∨ c.kind = 7 ∨ c.kind = 8 ∨ c.kind = 9 ∨ c.kind = 10 := by omega
    clear hkd
    rcases hcs with hk | hk | hk | hk | hk | hk | hk | hk | hk | hk
    · -- kind 1
      have HPB : Hid (partsB vars c = [numsB c.consts, brackB (c.vars.map (nameOf vars)), numB c.n]) := by show _ = _; unfold partsB; rw [hk];  simp
      have t1 : (c.kind == 1) = true := by rw [hk]; rfl
      clear hk
      go_wp2_with fail
      go_region_held3 (fun Y => Below W1.heap.size W1 Y ∧ Y.cell? ⟨w.heap.size, 2, none⟩ = some (.slice a2 c.consts.length c2) ∧ Y.cell? ⟨w.heap.size, 3, none⟩ = some (.int .i64 c.n))
        ((refine (fun (hB : Below W1.heap.size W1 _) => ⟨hB, (hB.cell (p := ⟨w.heap.size, 2, none⟩) hlt).trans k2, (hB.cell (p := ⟨w.heap.size, 3, none⟩) hlt).trans k3⟩ : Below W1.heap.size W1 _ → _) ?_; first | exact (Below.refl _ _).drew | exact call_below9 (by assumption) hbq | exact alloc_below9 (by assumption) | exact (show Below W1.heap.size W1 _ ∧ _ by assumption).1))
        (first
          | (go_at_call 231; refine (HNS.out _ (by assumption)).mono ?_; rintro e w3 ⟨rfl, hbq⟩; have hz := (call_below9 (by assumption) hbq).size)
          | (go_at_call 165; refine (HNN.out _ (by assumption)).mono ?_; rintro e w3 ⟨rfl, hbq⟩; have hz := (call_below9 (by assumption) hbq).size))
      all_goals (go_wp2_with fail; go_meet)
      all_goals (rw [HPB.out]; exact ⟨SOwn.new _ _ 3 _ _ hz rfl (by decide) rfl, (show Below W1.heap.size W1 _ ∧ _ by assumption).1⟩)
    · -- kind 2
      have HPB : Hid (partsB vars c = [numsB c.consts, brackB (c.vars.map (nameOf vars)), numB c.n]) := by show _ = _; unfold partsB; rw [hk];  simp
      have t1 : (c.kind == 1) = false := by rw [hk]; rfl
      have t2 : (c.kind == 2) = true := by rw [hk]; rfl
      clear hk
      go_wp2_with fail
      go_region_held3 (fun Y => Below W1.heap.size W1 Y ∧ Y.cell? ⟨w.heap.size, 2, none⟩ = some (.slice a2 c.consts.length c2) ∧ Y.cell? ⟨w.heap.size, 3, none⟩ = some (.int .i64 c.n))
        ((refine (fun (hB : Below W1.heap.size W1 _) => ⟨hB, (hB.cell (p := ⟨w.heap.size, 2, none⟩) hlt).trans k2, (hB.cell (p := ⟨w.heap.size, 3, none⟩) hlt).trans k3⟩ : Below W1.heap.size W1 _ → _) ?_; first | exact (Below.refl _ _).drew | exact call_below9 (by assumption) hbq | exact alloc_below9 (by assumption) | exact (show Below W1.heap.size W1 _ ∧ _ by assumption).1))
        (first
          | (go_at_call 231; refine (HNS.out _ (by assumption)).mono ?_; rintro e w3 ⟨rfl, hbq⟩; have hz := (call_below9 (by assumption) hbq).size)
          | (go_at_call 165; refine (HNN.out _ (by assumption)).mono ?_; rintro e w3 ⟨rfl, hbq⟩; have hz := (call_below9 (by assumption) hbq).size))
      all_goals (go_wp2_with fail; go_meet)
      all_goals (rw [HPB.out]; exact ⟨SOwn.new _ _ 3 _ _ hz rfl (by decide) rfl, (show Below W1.heap.size W1 _ ∧ _ by assumption).1⟩)
    · -- kind 3
      have HPB : Hid (partsB vars c = [numsB c.consts, brackB (c.vars.map (nameOf vars)), numB c.n]) := by show _ = _; unfold partsB; rw [hk];  simp
      have t1 : (c.kind == 1) = false := by rw [hk]; rfl
      have t2 : (c.kind == 2) = false := by rw [hk]; rfl
      have t3 : (c.kind == 3) = true := by rw [hk]; rfl
      clear hk
      go_wp2_with fail
      go_region_held3 (fun Y => Below W1.heap.size W1 Y ∧ Y.cell? ⟨w.heap.size, 2, none⟩ = some (.slice a2 c.consts.length c2) ∧ Y.cell? ⟨w.heap.size, 3, none⟩ = some (.int .i64 c.n))
        ((refine (fun (hB : Below W1.heap.size W1 _) => ⟨hB, (hB.cell (p := ⟨w.heap.size, 2, none⟩) hlt).trans k2, (hB.cell (p := ⟨w.heap.size, 3, none⟩) hlt).trans k3⟩ : Below W1.heap.size W1 _ → _) ?_; first | exact (Below.refl _ _).drew | exact call_below9 (by assumption) hbq | exact alloc_below9 (by assumption) | exact (show Below W1.heap.size W1 _ ∧ _ by assumption).1))
        (first
          | (go_at_call 231; refine (HNS.out _ (by assumption)).mono ?_; rintro e w3 ⟨rfl, hbq⟩; have hz := (call_below9 (by assumption) hbq).size)
          | (go_at_call 165; refine (HNN.out _ (by assumption)).mono ?_; rintro e w3 ⟨rfl, hbq⟩; have hz := (call_below9 (by assumption) hbq).size))
      all_goals (go_wp2_with fail; go_meet)
      all_goals (rw [HPB.out]; exact ⟨SOwn.new _ _ 3 _ _ hz rfl (by decide) rfl, (show Below W1.heap.size W1 _ ∧ _ by assumption).1⟩)
    · -- kind 4
      have HPB : Hid (partsB vars c = [brackB (c.vars.map (nameOf vars))]) := by show _ = _; unfold partsB; rw [hk];  simp
      have t1 : (c.kind == 1) = false := by rw [hk]; rfl
      have t2 : (c.kind == 2) = false := by rw [hk]; rfl
      have t3 : (c.kind == 3) = false := by rw [hk]; rfl
      have t4 : (c.kind == 4) = true := by rw [hk]; rfl
      clear hk
      go_wp2_with fail
      go_meet
      rw [HPB.out]
      exact ⟨SOwn.new _ _ 1 _ _ (Nat.le_refl _) rfl (by decide) rfl, below_alloc _ _⟩
    · -- kind 5
      have hlen := (form_len c HC.out.form).1 hk
      obtain ⟨x0, hx0⟩ : ∃ x, c.vars[0]? = some x := ⟨c.vars[0]'(by omega), List.getElem?_eq_getElem _⟩
      have HD0 : Hid (c.vars.getD 0 0 = x0) := by show _ = _; rw [List.getD_eq_getElem?_getD, hx0]; rfl
      have HR0 : Hid (0 ≤ x0 ∧ x0 < (vars.length : Int)) := HC.out.vars x0 (List.mem_of_getElem? hx0)
      obtain ⟨x1, hx1⟩ : ∃ x, c.vars[1]? = some x := ⟨c.vars[1]'(by omega), List.getElem?_eq_getElem _⟩
      have HD1 : Hid (c.vars.getD 1 0 = x1) := by show _ = _; rw [List.getD_eq_getElem?_getD, hx1]; rfl
      have HR1 : Hid (0 ≤ x1 ∧ x1 < (vars.length : Int)) := HC.out.vars x1 (List.mem_of_getElem? hx1)
      obtain ⟨b1, o1, rfl, hb1, e0⟩ := IArg.at HKA.out.1 x0 hx0
      have e1 := IArg.cell HKA.out.1 1 x1 hx1
      have hb1' : b1 < W1.heap.size := Nat.lt_of_lt_of_le hb1 HB1.out.size
      have e0 := (HB1.out.cell (p := ⟨b1, o1, none⟩) hb1).trans e0
      have e1 := (HB1.out.cell (p := ⟨b1, o1 + 1, none⟩) hb1).trans e1
      have g0 : (0 : Int) < (c.vars.length : Int) := by omega
      have g1 : (1 : Int) < (c.vars.length : Int) := by omega
      have q0 : ¬ c.vars = [] := by intro h0; rw [h0] at hlen; simp at hlen
      have q1 : 0 < c.vars.length := by omega
      have HLEN : Hid (c.vars.length = 2) := hlen
      clear hlen
      clear hx0 hx1
      have HPB : Hid (partsB vars c = [numsB c.consts, nameOf vars x0, nameOf vars x1]) := by show _ = _; unfold partsB; rw [hk];  simp [HD0.out, HD1.out, -List.getD_eq_getElem?_getD]
      have t1 : (c.kind == 1) = false := by rw [hk]; rfl
      have t2 : (c.kind == 2) = false := by rw [hk]; rfl
      have t3 : (c.kind == 3) = false := by rw [hk]; rfl
      have t4 : (c.kind == 4) = false := by rw [hk]; rfl
      have t5 : (c.kind == 5) = true := by rw [hk]; rfl
      clear hk
      go_wp2_with fail
      go_region_held3 (fun Y => Below W1.heap.size W1 Y ∧ Y.cell? ⟨w.heap.size, 2, none⟩ = some (.slice a2 c.consts.length c2) ∧ Y.cell? ⟨w.heap.size, 1, none⟩ = some (.slice (some ⟨b1, o1, none⟩) c.vars.length c1) ∧ Y.cell? ⟨b1, o1, none⟩ = some (.int .i64 x0) ∧ Y.cell? ⟨b1, o1 + 1, none⟩ = some (.int .i64 x1))
        ((refine (fun (hB : Below W1.heap.size W1 _) => ⟨hB, (hB.cell (p := ⟨w.heap.size, 2, none⟩) hlt).trans k2, (hB.cell (p := ⟨w.heap.size, 1, none⟩) hlt).trans k1, (hB.cell (p := ⟨b1, o1, none⟩) hb1').trans e0, (hB.cell (p := ⟨b1, o1 + 1, none⟩) hb1').trans e1⟩ : Below W1.heap.size W1 _ → _) ?_; first | exact (Below.refl _ _).drew | exact call_below9 (by assumption) hbq | exact alloc_below9 (by assumption) | exact (show Below W1.heap.size W1 _ ∧ _ by assumption).1))
        (first
          | (go_at_call 231; refine (HNS.out _ (by assumption)).mono ?_; rintro e w3 ⟨rfl, hbq⟩; have hz := (call_below9 (by assumption) hbq).size)
          | (go_at_call 168; refine (HNA.out _ (by assumption) _ (by first | exact HR0.out | exact HR1.out | exact HR2.out)).mono ?_; rintro e w3 ⟨rfl, hbq⟩; have hz := (call_below9 (by assumption) hbq).size))
      all_goals (go_wp2_with fail; go_meet)
      all_goals (rw [HPB.out]; exact ⟨SOwn.new _ _ 3 _ _ hz rfl (by decide) rfl, (show Below W1.heap.size W1 _ ∧ _ by assumption).1⟩)
    · -- kind 6
      have HRL : Hid (Calls Tryz.prog 232 #[.slice a3 c.rows.length c3, .func (.func 231) #[] #[]] W1 fun e w' => e = .returned (.string (brackB (c.rows.map numsB))) ∧ Below W1.heap.size W1 w') := by
        refine plist_rows 231 numsB c.rows _ W1 (HG.out _ (Below.refl _ _)).2.2.2.2.2.2.1 (by have := HM.out; omega) ?_ enters_pnumbers ?_
        · have h2 := rows_size HC.out hk
          rw [← len_size, brack_bytes] at h2
          simp only [List.length_cons, List.length_append] at h2
          omega
        · intro r hr v' w' hb' hv'
          refine pnumbers_any N r v' w' (HG.out w' hb').2.1 hv' (by have := row_len HC.out hk r hr; omega) ?_ (fun x hx => by have := HC.out.rows r hr x hx; unfold okI; omega)
          have h2 := nums_size r 4 (row_len HC.out hk r hr) (HC.out.rows r hr)
          unfold numsB at h2
          rw [← len_size, brack_bytes] at h2
          simp only [List.length_cons, List.length_append] at h2
          omega
      have HPB : Hid (partsB vars c = [brackB (c.vars.map (nameOf vars)), brackB (c.rows.map numsB)]) := by show _ = _; unfold partsB; rw [hk];  simp
      have t1 : (c.kind == 1) = false := by rw [hk]; rfl
      have t2 : (c.kind == 2) = false := by rw [hk]; rfl
      have t3 : (c.kind == 3) = false := by rw [hk]; rfl
      have t4 : (c.kind == 4) = false := by rw [hk]; rfl
      have t5 : (c.kind == 5) = false := by rw [hk]; rfl
      have t6 : (c.kind == 6) = true := by rw [hk]; rfl
      clear hk
      go_wp2_with fail
      refine HRL.out.mono ?_
      rintro e w3 ⟨rfl, hbq⟩
      go_wp2_with fail
      go_meet
      rw [HPB.out]
      exact ⟨SOwn.new _ _ 2 _ _ hbq.size rfl (by decide) rfl, hbq.alloc hbq.size _⟩
    · -- kind 7
      have hlen := (form_len c HC.out.form).2.1 hk
      obtain ⟨x0, hx0⟩ : ∃ x, c.vars[0]? = some x := ⟨c.vars[0]'(by omega), List.getElem?_eq_getElem _⟩
      have HD0 : Hid (c.vars.getD 0 0 = x0) := by show _ = _; rw [List.getD_eq_getElem?_getD, hx0]; rfl
      have HR0 : Hid (0 ≤ x0 ∧ x0 < (vars.length : Int)) := HC.out.vars x0 (List.mem_of_getElem? hx0)
      obtain ⟨x1, hx1⟩ : ∃ x, c.vars[1]? = some x := ⟨c.vars[1]'(by omega), List.getElem?_eq_getElem _⟩
      have HD1 : Hid (c.vars.getD 1 0 = x1) := by show _ = _; rw [List.getD_eq_getElem?_getD, hx1]; rfl
      have HR1 : Hid (0 ≤ x1 ∧ x1 < (vars.length : Int)) := HC.out.vars x1 (List.mem_of_getElem? hx1)
      obtain ⟨x2, hx2⟩ : ∃ x, c.vars[2]? = some x := ⟨c.vars[2]'(by omega), List.getElem?_eq_getElem _⟩
      have HD2 : Hid (c.vars.getD 2 0 = x2) := by show _ = _; rw [List.getD_eq_getElem?_getD, hx2]; rfl
      have HR2 : Hid (0 ≤ x2 ∧ x2 < (vars.length : Int)) := HC.out.vars x2 (List.mem_of_getElem? hx2)
      obtain ⟨b1, o1, rfl, hb1, e0⟩ := IArg.at HKA.out.1 x0 hx0
      have e1 := IArg.cell HKA.out.1 1 x1 hx1
      have e2 := IArg.cell HKA.out.1 2 x2 hx2
      have hb1' : b1 < W1.heap.size := Nat.lt_of_lt_of_le hb1 HB1.out.size
      have e0 := (HB1.out.cell (p := ⟨b1, o1, none⟩) hb1).trans e0
      have e1 := (HB1.out.cell (p := ⟨b1, o1 + 1, none⟩) hb1).trans e1
      have e2 := (HB1.out.cell (p := ⟨b1, o1 + 2, none⟩) hb1).trans e2
      have g0 : (0 : Int) < (c.vars.length : Int) := by omega
      have g1 : (1 : Int) < (c.vars.length : Int) := by omega
      have g2 : (2 : Int) < (c.vars.length : Int) := by omega
      have q0 : ¬ c.vars = [] := by intro h0; rw [h0] at hlen; simp at hlen
      have q1 : 0 < c.vars.length := by omega
      have HLEN : Hid (c.vars.length = 3) := hlen
      clear hlen
      clear hx0 hx1 hx2
      have HPB : Hid (partsB vars c = [nameOf vars x0, nameOf vars x1, nameOf vars x2]) := by show _ = _; unfold partsB; rw [hk];  simp [HD0.out, HD1.out, HD2.out, -List.getD_eq_getElem?_getD]
      have t1 : (c.kind == 1) = false := by rw [hk]; rfl
      have t2 : (c.kind == 2) = false := by rw [hk]; rfl
      have t3 : (c.kind == 3) = false := by rw [hk]; rfl
      have t4 : (c.kind == 4) = false := by rw [hk]; rfl
      have t5 : (c.kind == 5) = false := by rw [hk]; rfl
      have t6 : (c.kind == 6) = false := by rw [hk]; rfl
      have t7 : (c.kind == 7) = true := by rw [hk]; rfl
      clear hk
      go_wp2_with fail
      go_region_held3 (fun Y => Below W1.heap.size W1 Y ∧ Y.cell? ⟨w.heap.size, 1, none⟩ = some (.slice (some ⟨b1, o1, none⟩) c.vars.length c1) ∧ Y.cell? ⟨b1, o1, none⟩ = some (.int .i64 x0) ∧ Y.cell? ⟨b1, o1 + 1, none⟩ = some (.int .i64 x1) ∧ Y.cell? ⟨b1, o1 + 2, none⟩ = some (.int .i64 x2))
        ((refine (fun (hB : Below W1.heap.size W1 _) => ⟨hB, (hB.cell (p := ⟨w.heap.size, 1, none⟩) hlt).trans k1, (hB.cell (p := ⟨b1, o1, none⟩) hb1').trans e0, (hB.cell (p := ⟨b1, o1 + 1, none⟩) hb1').trans e1, (hB.cell (p := ⟨b1, o1 + 2, none⟩) hb1').trans e2⟩ : Below W1.heap.size W1 _ → _) ?_; first | exact (Below.refl _ _).drew | exact call_below9 (by assumption) hbq | exact alloc_below9 (by assumption) | exact (show Below W1.heap.size W1 _ ∧ _ by assumption).1))
        (first
          | (go_at_call 168; refine (HNA.out _ (by assumption) _ (by first | exact HR0.out | exact HR1.out | exact HR2.out)).mono ?_; rintro e w3 ⟨rfl, hbq⟩; have hz := (call_below9 (by assumption) hbq).size))
      all_goals (go_wp2_with fail; go_meet)
      all_goals (rw [HPB.out]; exact ⟨SOwn.new _ _ 3 _ _ hz rfl (by decide) rfl, (show Below W1.heap.size W1 _ ∧ _ by assumption).1⟩)
    · -- kind 8
      have hlen := (form_len c HC.out.form).2.2.1 hk
      obtain ⟨x0, hx0⟩ : ∃ x, c.vars[0]? = some x := ⟨c.vars[0]'(by omega), List.getElem?_eq_getElem _⟩
      have HD0 : Hid (c.vars.getD 0 0 = x0) := by show _ = _; rw [List.getD_eq_getElem?_getD, hx0]; rfl
      have HR0 : Hid (0 ≤ x0 ∧ x0 < (vars.length : Int)) := HC.out.vars x0 (List.mem_of_getElem? hx0)
      obtain ⟨b1, o1, rfl, hb1, e0⟩ := IArg.at HKA.out.1 x0 hx0
      have hb1' : b1 < W1.heap.size := Nat.lt_of_lt_of_le hb1 HB1.out.size
      have e0 := (HB1.out.cell (p := ⟨b1, o1, none⟩) hb1).trans e0
      have g0 : (0 : Int) < (c.vars.length : Int) := by omega
      have q0 : ¬ c.vars = [] := by intro h0; rw [h0] at hlen; simp at hlen
      have q1 : 0 < c.vars.length := by omega
      obtain ⟨T8, hT8⟩ : ∃ T8, brackB ((c.vars.drop 1).map (nameOf vars)) = T8 := ⟨_, rfl⟩
      have g9 : (1 : Int) ≤ (c.vars.length : Int) := by omega
      have g10 : c.vars.length ≤ c1 := (iarg_cap HKA.out.1).1
      have g11 : c1 ≤ maxLen := (iarg_cap HKA.out.1).2
      unfold maxLen at g11
      have g12 : ¬ c1 = 1 := by omega
      have HLEN : Hid (2 ≤ c.vars.length) := hlen
      have HPB : Hid (partsB vars c = [nameOf vars x0, T8]) := by show _ = _; unfold partsB; rw [hk];  simp [-List.getD_eq_getElem?_getD, -List.drop_one, -List.map_drop]; rw [HD0.out, hT8]; exact ⟨rfl, rfl⟩
      have t1 : (c.kind == 1) = false := by rw [hk]; rfl
      have t2 : (c.kind == 2) = false := by rw [hk]; rfl
      have t3 : (c.kind == 3) = false := by rw [hk]; rfl
      have t4 : (c.kind == 4) = false := by rw [hk]; rfl
      have t5 : (c.kind == 5) = false := by rw [hk]; rfl
      have t6 : (c.kind == 6) = false := by rw [hk]; rfl
      have t7 : (c.kind == 7) = false := by rw [hk]; rfl
      have t8 : (c.kind == 8) = true := by rw [hk]; rfl
      clear hk
      have HNLD : Hid (∀ (Y : World) {A : Prop}, Below W1.heap.size W1 Y ∧ A → Calls Tryz.prog 230 #[.slice (some ⟨b1, o1 + 1, none⟩) (c.vars.length - 1) (c1 - 1), .func (.func 168) #[.pointer (some ⟨b, 0, none⟩)] #[]] Y fun e w' => e = .returned (.string T8) ∧ Below Y.heap.size Y w') := fun Y A hY => by
        rw [← hT8]
        exact HNL.out (c.vars.drop 1) _ Y (HB1.out.trans (hY.1.mono HB1.out.size)) (iarg_drop (HG.out Y hY.1).2.2.2.2.1 (by omega)) (by have := HM.out; simp; omega) (fun x hx => HC.out.vars x (List.mem_of_mem_drop hx))
      clear hlen hx0 hT8
      go_wp2_with fail
      go_region_held3 (fun Y => Below W1.heap.size W1 Y ∧ Y.cell? ⟨w.heap.size, 1, none⟩ = some (.slice (some ⟨b1, o1, none⟩) c.vars.length c1) ∧ Y.cell? ⟨b1, o1, none⟩ = some (.int .i64 x0))
        ((refine (fun (hB : Below W1.heap.size W1 _) => ⟨hB, (hB.cell (p := ⟨w.heap.size, 1, none⟩) hlt).trans k1, (hB.cell (p := ⟨b1, o1, none⟩) hb1').trans e0⟩ : Below W1.heap.size W1 _ → _) ?_; first | exact (Below.refl _ _).drew | exact call_below9 (by assumption) hbq | exact alloc_below9 (by assumption) | exact (show Below W1.heap.size W1 _ ∧ _ by assumption).1))
        (first
          | (go_at_call 168; refine (HNA.out _ (by assumption) _ (by first | exact HR0.out | exact HR1.out | exact HR2.out)).mono ?_; rintro e w3 ⟨rfl, hbq⟩; have hz := (call_below9 (by assumption) hbq).size)
          | (go_at_call 230; refine (HNLD.out _ (by assumption)).mono ?_; rintro e w3 ⟨rfl, hbq⟩; have hz := (call_below9 (by assumption) hbq).size))
      all_goals (go_wp2_with fail; go_meet)
      all_goals (rw [HPB.out]; exact ⟨SOwn.new _ _ 2 _ _ hz rfl (by decide) rfl, (show Below W1.heap.size W1 _ ∧ _ by assumption).1⟩)
    · -- kind 9
      have HPB : Hid (partsB vars c = [brackB (c.lits.map (plitB vars))]) := by show _ = _; unfold partsB; rw [hk];  simp
      have t1 : (c.kind == 1) = false := by rw [hk]; rfl
      have t2 : (c.kind == 2) = false := by rw [hk]; rfl
      have t3 : (c.kind == 3) = false := by rw [hk]; rfl
      have t4 : (c.kind == 4) = false := by rw [hk]; rfl
      have t5 : (c.kind == 5) = false := by rw [hk]; rfl
      have t6 : (c.kind == 6) = false := by rw [hk]; rfl
      have t7 : (c.kind == 7) = false := by rw [hk]; rfl
      have t8 : (c.kind == 8) = false := by rw [hk]; rfl
      have t9 : (c.kind == 9) = true := by rw [hk]; rfl
      clear hk
      go_wp2_with fail
      refine HLL.out.mono ?_
      rintro e w3 ⟨rfl, hbq⟩
      go_wp2_with fail
      go_meet
      rw [HPB.out]
      exact ⟨SOwn.new _ _ 1 _ _ hbq.size rfl (by decide) rfl, hbq.alloc hbq.size _⟩
    · -- kind 10
      have hlen := ((form_len c HC.out.form).2.2.2 hk).1
      obtain ⟨x0, hx0⟩ : ∃ x, c.vars[0]? = some x := ⟨c.vars[0]'(by omega), List.getElem?_eq_getElem _⟩
      have HD0 : Hid (c.vars.getD 0 0 = x0) := by show _ = _; rw [List.getD_eq_getElem?_getD, hx0]; rfl
      have HR0 : Hid (0 ≤ x0 ∧ x0 < (vars.length : Int)) := HC.out.vars x0 (List.mem_of_getElem? hx0)
      obtain ⟨b1, o1, rfl, hb1, e0⟩ := IArg.at HKA.out.1 x0 hx0
      have hb1' : b1 < W1.heap.size := Nat.lt_of_lt_of_le hb1 HB1.out.size
      have e0 := (HB1.out.cell (p := ⟨b1, o1, none⟩) hb1).trans e0
      have g0 : (0 : Int) < (c.vars.length : Int) := by omega
      have q0 : ¬ c.vars = [] := by intro h0; rw [h0] at hlen; simp at hlen
      have q1 : 0 < c.vars.length := by omega
      have HLEN : Hid (c.vars.length = 1) := hlen
      clear hlen
      clear hx0
      have hlenl := ((form_len c HC.out.form).2.2.2 hk).2
      obtain ⟨y0, hy0⟩ : ∃ y, c.lits[0]? = some y := ⟨c.lits[0]'(by omega), List.getElem?_eq_getElem _⟩
      have HDY : Hid (c.lits.getD 0 ⟨0, 0, 0⟩ = y0) := by show _ = _; rw [List.getD_eq_getElem?_getD, hy0]; rfl
      have HLY : Hid (LitOk vars y0) := HC.out.lits y0 (List.mem_of_getElem? hy0)
      obtain ⟨b4, o4, rfl, hb4, f0, f1, f2⟩ := LArg.at HKA.out.2.2.2 y0 hy0
      have hb4' : b4 < W1.heap.size := Nat.lt_of_lt_of_le hb4 HB1.out.size
      have f0 := (HB1.out.cell (p := ⟨b4, o4, none⟩) hb4).trans f0
      have f1 := (HB1.out.cell (p := ⟨b4, o4 + 1, none⟩) hb4).trans f1
      have f2 := (HB1.out.cell (p := ⟨b4, o4 + 2, none⟩) hb4).trans f2
      have g5 : (0 : Int) < (c.lits.length : Int) := by omega
      have q2 : ¬ c.lits = [] := by intro h0; rw [h0] at hlenl; simp at hlenl
      have q3 : 0 < c.lits.length := by omega
      clear hlenl hy0
      have HPB : Hid (partsB vars c = [nameOf vars x0, plitB vars y0]) := by show _ = _; unfold partsB; rw [hk];  simp [HD0.out, HDY.out, -List.getD_eq_getElem?_getD]
      have t1 : (c.kind == 1) = false := by rw [hk]; rfl
      have t2 : (c.kind == 2) = false := by rw [hk]; rfl
      have t3 : (c.kind == 3) = false := by rw [hk]; rfl
      have t4 : (c.kind == 4) = false := by rw [hk]; rfl
      have t5 : (c.kind == 5) = false := by rw [hk]; rfl
      have t6 : (c.kind == 6) = false := by rw [hk]; rfl
      have t7 : (c.kind == 7) = false := by rw [hk]; rfl
      have t8 : (c.kind == 8) = false := by rw [hk]; rfl
      have t9 : (c.kind == 9) = false := by rw [hk]; rfl
      have t10 : (c.kind == 10) = true := by rw [hk]; rfl
      clear hk
      go_wp2_with fail
      go_region_held3 (fun Y => Below W1.heap.size W1 Y ∧ Y.cell? ⟨w.heap.size, 1, none⟩ = some (.slice (some ⟨b1, o1, none⟩) c.vars.length c1) ∧ Y.cell? ⟨b1, o1, none⟩ = some (.int .i64 x0) ∧ Y.cell? ⟨w.heap.size, 5, none⟩ = some (.slice (some ⟨b4, o4, none⟩) c.lits.length c4) ∧ Y.cell? ⟨b4, o4, none⟩ = some (.int .i64 y0.var) ∧ Y.cell? ⟨b4, o4 + 1, none⟩ = some (.int .i64 y0.op) ∧ Y.cell? ⟨b4, o4 + 2, none⟩ = some (.int .i64 y0.n))
        ((refine (fun (hB : Below W1.heap.size W1 _) => ⟨hB, (hB.cell (p := ⟨w.heap.size, 1, none⟩) hlt).trans k1, (hB.cell (p := ⟨b1, o1, none⟩) hb1').trans e0, (hB.cell (p := ⟨w.heap.size, 5, none⟩) hlt).trans k5, (hB.cell (p := ⟨b4, o4, none⟩) hb4').trans f0, (hB.cell (p := ⟨b4, o4 + 1, none⟩) hb4').trans f1, (hB.cell (p := ⟨b4, o4 + 2, none⟩) hb4').trans f2⟩ : Below W1.heap.size W1 _ → _) ?_; first | exact (Below.refl _ _).drew | exact call_below9 (by assumption) hbq | exact alloc_below9 (by assumption) | exact (show Below W1.heap.size W1 _ ∧ _ by assumption).1))
        (first
          | (go_at_call 168; refine (HNA.out _ (by assumption) _ (by first | exact HR0.out | exact HR1.out | exact HR2.out)).mono ?_; rintro e w3 ⟨rfl, hbq⟩; have hz := (call_below9 (by assumption) hbq).size)
          | (go_at_call 234; refine (HLI.out _ (by assumption) y0 HLY.out).mono ?_; rintro e w3 ⟨rfl, hbq⟩; have hz := (call_below9 (by assumption) hbq).size))
      all_goals (go_wp2_with fail; go_meet)
      all_goals (rw [HPB.out]; exact ⟨SOwn.new _ _ 2 _ _ hz rfl (by decide) rfl, (show Below W1.heap.size W1 _ ∧ _ by assumption).1⟩)
  case rest =>
    obtain ⟨hso, hbc⟩ := hcut
    have HSO : Hid (SOwn W1.heap.size wc _ (partsB vars c)) := hso
    rcases hso.2 with ⟨_, h0⟩ | ⟨g, cp, cur, hq, _, hh, _⟩
    · exact absurd (List.length_eq_zero_iff.1 h0) (parts_ne HC.out.kind)
    subst hq
    have hgl : g < wc.heap.size := (Array.getElem?_eq_some_iff.1 hh).1
    clear hso hh
    have HBC : Hid (Below w.heap.size w wc) := HB1.out.trans (hbc.mono HB1.out.size)
    have k0c : wc.cell? ⟨w.heap.size, 0, none⟩ = some (.int .i64 c.kind) := (hbc.cell (p := ⟨w.heap.size, 0, none⟩) hlt).trans k0
    have hltc : w.heap.size < wc.heap.size := Nat.lt_of_lt_of_le hlt hbc.size
    obtain ⟨k, hk⟩ : ∃ k : Nat, c.kind = (k : Int) := ⟨c.kind.toNat, by omega⟩
    obtain ⟨z, hz⟩ : ∃ z, conWL[k]? = some z := by
      have : k < conWL.length := by show k < 11; omega
      exact ⟨conWL[k], List.getElem?_eq_getElem this⟩
    have HZ : Hid (conWL[k]? = some z) := hz
    have HLN : Hid (lineL ([conW, z] ++ partsB vars c) = conLine vars c ∧ (joinB ([conW, z] ++ partsB vars c) [32]).length ≤ 10000) := by
      have e : conWB c.kind = z := by unfold conWB; rw [hk, List.getD_eq_getElem?_getD]; simp [hz]
      have h1 := conLine_len HS.out HC.out
      unfold conLine
      unfold conLine at h1
      rw [e] at h1 ⊢
      exact ⟨rfl, h1.1⟩
    have HPL : Hid ((partsB vars c).length ≤ 3) := (parts_size HS.out HC.out).1
    obtain ⟨ps, hps⟩ : ∃ ps, partsB vars c = ps := ⟨_, rfl⟩
    rw [hps] at HSO HLN HPL ⊢
    rw [hk] at k0c
    have hk0 : (0 : Int) ≤ (k : Int) := by omega
    have hk1 : (k : Int) < (conWL.length : Int) := by show (k : Int) < 11; omega
    clear hz hk hkd hbc k0 k1 k2 k3 k4 k5 hps hlt
    go_wp2_with fail
    go_region_law
      (first
        | (rw [if_pos (by rfl)]; refine wp_append_strs _ _ rfl wc.heap.size _ [conW, z] rfl (SOwn.new [conW, z] wc.heap.size 2 _ w2 hB2.size rfl (by decide) rfl) g cp _ ps rfl W1.heap.size (SOwn.below HSO.out (hB2.alloc hB2.size _)) ?_ (hB2.alloc hB2.size _).size ?_; (have := HPL.out; simp; omega); intro v4 w4 hown4 hg4; have hb4 := grown_below9 (hB2.alloc hB2.size _) hg4 hB2.size; have HP4 := (HX.out w4 (HBC.out.trans (hb4.mono HBC.out.size))).1; obtain ⟨a4, c4, hv4⟩ := own_form hown4; subst hv4)
        | (rw [if_pos (by rfl)]; go_simp; go_at_call 235; refine (words_cons _).mono ?_; rintro e w2 ⟨sv, rfl, ⟨as_, cs_, rfl, hm_, hsv⟩, hb2⟩; obtain ⟨bk, off, rfl, hbk, hcell⟩ := hsv k z HZ.out; have kc := (hb2.cell (p := ⟨w.heap.size, 0, none⟩) hltc).trans k0c; have hB2 : Below wc.heap.size wc w2 := (Below.refl _ _).drew.trans hb2; dsimp only)
        | (rw [if_pos (by rfl)]; go_simp; go_at_call 164; refine (pline_any N B b vsl l ([conW, z] ++ ps) _ _ HP4 (SOwn.arg hown4) ?_ ?_ ?_).mono ?_; (have := HPL.out; simp; omega); (have := HLN.out.2; omega); omega; rintro e w5 ⟨rfl, hp5, hf5⟩; dsimp only))
    all_goals
      have HP5 : Hid (PrS N B b vsl (l ++ conLine vars c) w5) := by rw [← HLN.out.1]; exact hp5
      have HF5 : Hid (Fr (XBB b B) w w5) := (Fr.below (HBC.out.trans (hb4.mono HBC.out.size))).trans hf5
      clear hp5 hf5 hb4 hB2 hb2 hown4 hg4 HP4 hcell hm_ hsv kc k0c
      go_wp2
      go_end0
      exact ⟨rfl, HP5.out, HF5.out⟩
end Go.Proofs.YtdjbejlbmaiocagGreatDoor
/-
  WALKS: package text: the printer: a model.
-/
namespace Go.Proofs.YtdjbejlbmaiocagGreatDoor
open Go.RowKit

theorem fr_below9 {w0 w Y : World} {b B : Nat} (h : Below w0.heap.size w0 w) (hf : Fr (XBB b B) w Y) (hb : w0.heap.size ≤ b) (hB : w0.heap.size ≤ B) : Below w0.heap.size w0 Y :=
  ⟨hf.os.trans h.os, hf.tape.trans h.tape, hf.output.trans h.output, Nat.le_trans h.size hf.size, fun k hk => (hf.block k (Nat.lt_of_lt_of_le hk h.size) (fun hx => by rcases hx with hx | hx <;> omega)).trans (h.block k hk)⟩
theorem take_flat {α β : Type} (f : α → List β) (l : List α) (k : Nat) (x : α) (h : l[k]? = some x) : (l.take (k + 1)).flatMap f = (l.take k).flatMap f ++ f x := by
  rw [List.take_add_one, h]; simp
theorem flat_max {α β : Type} (f : α → List β) (s : Nat) : ∀ (l : List α), (∀ x ∈ l, (f x).length ≤ s) → (l.flatMap f).length ≤ l.length * s
  | [], _ => by simp
  | x :: l, h => by
    have h1 := flat_max f s l fun y hy => h y (List.mem_cons_of_mem _ hy)
    have h2 := h x (List.mem_cons_self ..)
    rw [List.flatMap_cons, List.length_append, List.length_cons, Nat.succ_mul]
    omega
set_option maxHeartbeats 8000000 in
set_option maxRecDepth 100000 in
theorem pmodel_any (N b : Nat) (m : Mod) (vs cs : Value) (w0 w : World) (hm : MArg w0 vs cs m) (hb0 : Below w0.heap.size w0 w) (hb : w0.heap.size ≤ b) (hN : N ≤ b) (ht : TabN N w)
    (hp : w.heap[b]? = some (.cells #[.pointer none, .slice none 0 0, vs] 166)) (hok : ModOk m) (h6 : m.vars.length ≤ 6) (h8 : m.cons.length ≤ 8) :
    Calls Tryz.prog 119 #[.pointer (some ⟨b, 0, none⟩), modV vs cs m] w fun e w' => e = .returned (.tuple #[]) ∧ PrS N (w.heap.size + 1) b vs (modB m) w' ∧ Fr (XBB b w.heap.size) w w' := by
  have HM : Hid (MArg w0 vs cs m) := hm
  have HB0 : Hid (Below w0.heap.size w0 w) := hb0
  have HOK : Hid (ModOk m) := hok
  have hbl : b < w.heap.size := (Array.getElem?_eq_some_iff.1 hp).1
  obtain ⟨⟨a1, c1, rfl, hm1, _⟩, ⟨a2, c2, rfl, hm2, _⟩⟩ := hm
  unfold modV
  unfold maxLen at hm1 hm2
  clear hb0 hok
  go_enter Tryz.func119, Tryz.ntmps119
  go_upto_block 0 with (fail)
  obtain ⟨W, hW⟩ : ∃ W, W = w.alloc (.cells #[.slice a1 m.vars.length c1, .slice a2 m.cons.length c2, .int .i64 m.goal, .int .i64 m.var] 25) := ⟨_, rfl⟩
  have HWS : Hid (W.heap.size = w.heap.size + 1) := by show _ = _; rw [hW]; simp
  have HBW : Hid (Below w.heap.size w W) := by show Below _ _ _; rw [hW]; exact below_alloc _ _
  have HQ : W.heap[w.heap.size]? = some (.cells #[.slice a1 m.vars.length c1, .slice a2 m.cons.length c2, .int .i64 m.goal, .int .i64 m.var] 25) := by rw [hW]; exact heap_alloc_new _ _
  have HP0 : Hid (PrS N (w.heap.size + 1) b (.slice a1 m.vars.length c1) [] W) := ⟨hN, by omega, by rw [HWS.out]; exact Nat.le_refl _, ht.below HBW.out, _, _, Or.inl rfl, (HBW.out.block b hbl).trans hp, World.ownsRow_nil _ _ _ _⟩
  rw [← hW]
  clear hW ht hp
  have HX : Hid (∀ Y, Fr (XBB b (w.heap.size + 1)) W Y → Below w0.heap.size w0 Y ∧ Y.heap[w.heap.size]? = some (.cells #[.slice a1 m.vars.length c1, .slice a2 m.cons.length c2, .int .i64 m.goal, .int .i64 m.var] 25)) := fun Y hY =>
    ⟨fr_below9 (HB0.out.trans (HBW.out.mono HB0.out.size)) hY hb (by have := HB0.out.size; omega), (hY.block _ (by rw [HWS.out]; omega) (fun hx => by rcases hx with hx | hx <;> omega)).trans HQ⟩
  clear HQ
  go_cut [] (fun wx => Hid (PrS N (w.heap.size + 1) b (.slice a1 m.vars.length c1) (m.vars.flatMap varLine) wx) ∧ Hid (Fr (XBB b (w.heap.size + 1)) W wx))
  case first =>
    go_wp2_with fail
    go_loopw [12] (fun i wr => ∃ k : Nat, k ≤ m.vars.length ∧ i = .int .i64 k ∧ Hid (PrS N (w.heap.size + 1) b (.slice a1 m.vars.length c1) ((m.vars.take k).flatMap varLine) wr) ∧ Hid (Fr (XBB b (w.heap.size + 1)) W wr)) (fun i _ => m.vars.length - (intOf i).toNat)
    case atStart => exact ⟨0, by omega, rfl, HP0, Fr.refl _ _⟩
    case round =>
      obtain ⟨k, hk, rfl, hpr, hfr⟩ := hrel
      by_cases hlt : k < m.vars.length
      · obtain ⟨x, hx⟩ : ∃ x, m.vars[k]? = some x := ⟨m.vars[k], List.getElem?_eq_getElem hlt⟩
        have HVO : Hid (VarOk x) := HOK.out.vars x (List.mem_of_getElem? hx)
        obtain ⟨bb, off, hbb, rfl, n0, n1, n2⟩ : ∃ bb off, bb < wr.heap.size ∧ a1 = some ⟨bb, off, none⟩ ∧ wr.cell? ⟨bb, off + k * 3, none⟩ = some (.string x.name) ∧ wr.cell? ⟨bb, off + k * 3 + 1, none⟩ = some (.int .i64 x.lo) ∧ wr.cell? ⟨bb, off + k * 3 + 2, none⟩ = some (.int .i64 x.hi) := by
          obtain ⟨a', c', hv, _, hr⟩ := VArg.below (HX.out wr hfr.out).1 HM.out.1
          cases hv
          obtain ⟨_, bb, off, h1, h2, h3, h4, h5⟩ := hr k x hx
          exact ⟨bb, off, h2, h1, h3, h4, h5⟩
        have HLL := varLine_len HVO.out
        obtain ⟨nm, lo, hi⟩ := x
        simp only at n0 n1 n2 HLL
        obtain ⟨nlo, hnlo⟩ : ∃ s, numB lo = s := ⟨_, rfl⟩
        obtain ⟨nhi, hnhi⟩ : ∃ s, numB hi = s := ⟨_, rfl⟩
        have HNlo : Hid (∀ Y, TabN N Y → Calls Tryz.prog 165 #[.int .i64 lo] Y fun e w' => e = .returned (.string nlo) ∧ Below Y.heap.size Y w') := fun Y hY => by
          rw [← hnlo]; exact pnumber_any N lo (by have := HVO.out.2; simp only at this; unfold okI; omega) Y hY
        have HNhi : Hid (∀ Y, TabN N Y → Calls Tryz.prog 165 #[.int .i64 hi] Y fun e w' => e = .returned (.string nhi) ∧ Below Y.heap.size Y w') := fun Y hY => by
          rw [← hnhi]; exact pnumber_any N hi (by have := HVO.out.2; simp only at this; unfold okI; omega) Y hY
        have HLE : Hid ((m.vars.take k).flatMap varLine ++ lineL [varW, nm ++ colW, nlo ++ dotsW ++ nhi] = (m.vars.take (k + 1)).flatMap varLine) := by
          show _ = _; rw [take_flat varLine _ k _ hx]; unfold varLine; simp only; rw [hnlo, hnhi]
        have HJL : Hid ((joinB [varW, nm ++ colW, nlo ++ dotsW ++ nhi] [32]).length ≤ 10000) := by rw [← hnlo, ← hnhi]; exact HLL.1
        have HTL : Hid (((m.vars.take k).flatMap varLine).length ≤ 100000000) := by
          have h1 := flat_max varLine 10002 (m.vars.take k) (fun y hy => (varLine_len (HOK.out.vars y (List.mem_of_mem_take hy))).2.1)
          have h2 : (m.vars.take k).length ≤ 6 := by simp; omega
          have h3 : (m.vars.take k).length * 10002 ≤ 6 * 10002 := Nat.mul_le_mul_right _ h2
          show _ ≤ _; omega
        obtain ⟨pre, hpre⟩ : ∃ pre, (m.vars.take k).flatMap varLine = pre := ⟨_, rfl⟩
        rw [hpre] at hpr HLE HTL
        have g1 : ¬ (9223372036854775807 < nm.size + 1) := by omega
        have g2 : ¬ (9223372036854775807 < nlo.size + 2) := by rw [← hnlo]; omega
        have g3 : ¬ (9223372036854775807 < nlo.size + 2 + nhi.size) := by rw [← hnlo, ← hnhi]; omega
        clear hpre hnlo hnhi HLL hx HVO
        have hk3 : (k : Int) < (m.vars.length : Int) := by omega
        go_wp2_with fail
        obtain ⟨Wv, hWv⟩ : ∃ Wv, Wv = wr.alloc (.cells #[.string nm, .int .i64 lo, .int .i64 hi] 71) := ⟨_, rfl⟩
        have HBV : Hid (Below wr.heap.size wr Wv) := by show Below _ _ _; rw [hWv]; exact below_alloc _ _
        have HQv : Wv.heap[wr.heap.size]? = some (.cells #[.string nm, .int .i64 lo, .int .i64 hi] 71) := by rw [hWv]; exact heap_alloc_new _ _
        have hvl : wr.heap.size < Wv.heap.size := (Array.getElem?_eq_some_iff.1 HQv).1
        have v0 : Wv.cell? ⟨wr.heap.size, 0, none⟩ = some (.string nm) := blk9 HQv 0 _ rfl
        have v1 : Wv.cell? ⟨wr.heap.size, 1, none⟩ = some (.int .i64 lo) := blk9 HQv 1 _ rfl
        have v2 : Wv.cell? ⟨wr.heap.size, 2, none⟩ = some (.int .i64 hi) := blk9 HQv 2 _ rfl
        rw [← hWv]
        clear hWv HQv n0 n1 n2
        have HPX : Hid (∀ Y, Below Wv.heap.size Wv Y → PrS N (w.heap.size + 1) b (.slice (some ⟨bb, off, none⟩) m.vars.length c1) pre Y) := fun Y hY => (hpr.out.below HBV.out).below hY
        go_region_law
          (first
            | (rw [if_pos (by rfl)]; go_simp; go_at_call 165; first
                | (refine (HNhi.out _ (HPX.out _ hB2).tab).mono ?_; rintro e w3 ⟨rfl, hb3⟩; have hB3 : Below Wv.heap.size Wv w3 := hB2.trans (hb3.mono hB2.size); have r0 := (hB3.cell (p := ⟨wr.heap.size, 0, none⟩) hvl).trans v0; dsimp only)
                | (refine (HNlo.out _ (HPX.out _ (Below.refl _ _).drew).tab).mono ?_; rintro e w2 ⟨rfl, hb2⟩; have hB2 : Below Wv.heap.size Wv w2 := (Below.refl _ _).drew.trans hb2; have s0 := (hB2.cell (p := ⟨wr.heap.size, 0, none⟩) hvl).trans v0; have s2 := (hB2.cell (p := ⟨wr.heap.size, 2, none⟩) hvl).trans v2; dsimp only))
            | (rw [if_pos (by rfl)]; go_simp; go_at_call 164; refine (pline_any N (w.heap.size + 1) b _ pre [varW, nm ++ colW, nlo ++ dotsW ++ nhi] _ _ (HPX.out _ (hB3.alloc hB3.size _)) (SOwn.arg (SOwn.new [varW, nm ++ colW, nlo ++ dotsW ++ nhi] 0 3 _ w3 (Nat.zero_le _) rfl (by decide) rfl)) (by simp) (by have := HJL.out; omega) HTL.out).mono ?_; rintro e w5 ⟨rfl, hp5, hf5⟩; dsimp only))
        all_goals
          have HP5 : Hid (PrS N (w.heap.size + 1) b (.slice (some ⟨bb, off, none⟩) m.vars.length c1) ((m.vars.take (k + 1)).flatMap varLine) w5) := by rw [← HLE.out]; exact hp5
          have HF5 : Hid (Fr (XBB b (w.heap.size + 1)) W w5) := (hfr.out.trans (Fr.below (HBV.out.trans ((hB3.alloc hB3.size _).mono HBV.out.size)))).trans hf5
          clear hp5 hf5 hB2 hB3 hb2 hb3 s0 s2 r0 v0 v1 v2
          go_wp2
          go_roundw
          case rel => exact ⟨k + 1, by omega, by go_num, HP5, HF5⟩
          case measure => simp [intOf]; omega
      · have hkk : k = m.vars.length := by omega
        have HPE : Hid (PrS N (w.heap.size + 1) b (.slice a1 m.vars.length c1) (m.vars.flatMap varLine) wr) := by
          have := hpr.out
          rw [hkk, List.take_length] at this
          exact this
        clear hpr hkk
        go_wp2_with fail
        go_meet
        exact ⟨HPE, hfr⟩
  case rest =>
    obtain ⟨hp1, hf1⟩ := hcut
    have HQ1 : Hid (wc.heap[w.heap.size]? = some (.cells #[.slice a1 m.vars.length c1, .slice a2 m.cons.length c2, .int .i64 m.goal, .int .i64 m.var] 25)) := (HX.out wc hf1.out).2
    have d1 : wc.cell? ⟨w.heap.size, 1, none⟩ = some (.slice a2 m.cons.length c2) := blk9 HQ1.out 1 _ rfl
    clear HP0
    go_upto_block 2 with (fail)
    go_cut [] (fun wx => Hid (PrS N (w.heap.size + 1) b (.slice a1 m.vars.length c1) (m.vars.flatMap varLine ++ m.cons.flatMap (conLine m.vars)) wx) ∧ Hid (Fr (XBB b (w.heap.size + 1)) W wx))
    case first =>
      go_wp2_with fail
      go_loopw [34] (fun i wr => ∃ k : Nat, k ≤ m.cons.length ∧ i = .int .i64 k ∧ Hid (PrS N (w.heap.size + 1) b (.slice a1 m.vars.length c1) (m.vars.flatMap varLine ++ (m.cons.take k).flatMap (conLine m.vars)) wr) ∧ Hid (Fr (XBB b (w.heap.size + 1)) W wr)) (fun i _ => m.cons.length - (intOf i).toNat)
      case atStart => exact ⟨0, by omega, rfl, by simpa using hp1, hf1⟩
      case round =>
        clear d1
        obtain ⟨k, hk, rfl, hpr, hfr⟩ := hrel
        by_cases hlt : k < m.cons.length
        · obtain ⟨x, hx⟩ : ∃ x, m.cons[k]? = some x := ⟨m.cons[k], List.getElem?_eq_getElem hlt⟩
          have HCO : Hid (ConOk m.vars.length x) := HOK.out.cons x (List.mem_of_getElem? hx)
          obtain ⟨bb, off, vv, vc, vr, vl, hbb, rfl, n0, n1, n2, n3, n4, n5, hka⟩ : ∃ bb off vv vc vr vl, bb < wr.heap.size ∧ a2 = some ⟨bb, off, none⟩ ∧ wr.cell? ⟨bb, off + k * 6, none⟩ = some (.int .i64 x.kind) ∧ wr.cell? ⟨bb, off + k * 6 + 1, none⟩ = some vv ∧ wr.cell? ⟨bb, off + k * 6 + 2, none⟩ = some vc ∧ wr.cell? ⟨bb, off + k * 6 + 3, none⟩ = some (.int .i64 x.n) ∧ wr.cell? ⟨bb, off + k * 6 + 4, none⟩ = some vr ∧ wr.cell? ⟨bb, off + k * 6 + 5, none⟩ = some vl ∧ KArg wr vv vc vr vl x := by
            obtain ⟨a', c', hv, _, hr⟩ := CArg.below (HX.out wr hfr.out).1 HM.out.2
            cases hv
            obtain ⟨bb, off, vv, vc, vr, vl, h1, h2, h3⟩ := hr k x hx
            exact ⟨bb, off, vv, vc, vr, vl, h2, h1, h3⟩
          have HKA : Hid (KArg wr vv vc vr vl x) := hka
          obtain ⟨⟨q1, r1, rfl, _, _⟩, ⟨q2, r2, rfl, _, _⟩, ⟨q3, r3, rfl, _, _⟩, ⟨q4, r4, rfl, _, _⟩⟩ := hka
          have HVA : Hid (VArg wr (.slice a1 m.vars.length c1) m.vars) := VArg.below (HX.out wr hfr.out).1 HM.out.1
          have HLE : Hid (m.vars.flatMap varLine ++ (m.cons.take k).flatMap (conLine m.vars) ++ conLine m.vars x = m.vars.flatMap varLine ++ (m.cons.take (k + 1)).flatMap (conLine m.vars)) := by
            show _ = _; rw [take_flat (conLine m.vars) _ k _ hx, List.append_assoc]
          have HTL : Hid ((m.vars.flatMap varLine ++ (m.cons.take k).flatMap (conLine m.vars)).length ≤ 10000000) := by
            have h1 := flat_max varLine 10002 m.vars (fun y hy => (varLine_len (HOK.out.vars y hy)).2.1)
            have h2 := flat_max (conLine m.vars) 10002 (m.cons.take k) (fun y hy => (conLine_len (names_short HOK.out.names) (HOK.out.cons y (List.mem_of_mem_take hy))).2)
            have h3 : (m.cons.take k).length ≤ 8 := by simp; omega
            have h4 : (m.cons.take k).length * 10002 ≤ 8 * 10002 := Nat.mul_le_mul_right _ h3
            have h5 : m.vars.length * 10002 ≤ 6 * 10002 := Nat.mul_le_mul_right _ h6
            show _ ≤ _; rw [List.length_append]; omega
          have hk3 : (k : Int) < (m.cons.length : Int) := by omega
          obtain ⟨pre, hpre⟩ : ∃ pre, m.vars.flatMap varLine ++ (m.cons.take k).flatMap (conLine m.vars) = pre := ⟨_, rfl⟩
          rw [hpre] at hpr HLE HTL
          clear hpre hx
          go_wp2_with fail
          obtain ⟨Wv, hWv⟩ : ∃ Wv, Wv = wr.alloc (.cells #[.int .i64 x.kind, .slice q1 x.vars.length r1, .slice q2 x.consts.length r2, .int .i64 x.n, .slice q3 x.rows.length r3, .slice q4 x.lits.length r4] 73) := ⟨_, rfl⟩
          have HBV : Hid (Below wr.heap.size wr Wv) := by show Below _ _ _; rw [hWv]; exact below_alloc _ _
          rw [← hWv]
          clear hWv
          refine (show Calls Tryz.prog 166 #[.pointer (some ⟨b, 0, none⟩), conV (.slice q1 x.vars.length r1) (.slice q2 x.consts.length r2) (.slice q3 x.rows.length r3) (.slice q4 x.lits.length r4) x] Wv _ from prcon_any N (w.heap.size + 1) b (.slice a1 m.vars.length c1) m.vars x _ _ _ _ pre Wv (hpr.out.below HBV.out) (VArg.below HBV.out HVA.out) (KArg.below HBV.out HKA.out) (names_short HOK.out.names) HCO.out HTL.out).mono ?_
          rintro e w5 ⟨rfl, hp5, hf5⟩
          have HP5 : Hid (PrS N (w.heap.size + 1) b (.slice a1 m.vars.length c1) (m.vars.flatMap varLine ++ (m.cons.take (k + 1)).flatMap (conLine m.vars)) w5) := by rw [← HLE.out]; exact hp5
          have HF5 : Hid (Fr (XBB b (w.heap.size + 1)) W w5) := (hfr.out.trans (Fr.below HBV.out)).trans hf5
          clear hp5 hf5 n0 n1 n2 n3 n4 n5
          go_wp2
          go_roundw
          case rel => exact ⟨k + 1, by omega, by go_num, HP5, HF5⟩
          case measure => simp [intOf]; omega
        · have hkk : k = m.cons.length := by omega
          have HPE : Hid (PrS N (w.heap.size + 1) b (.slice a1 m.vars.length c1) (m.vars.flatMap varLine ++ m.cons.flatMap (conLine m.vars)) wr) := by
            have := hpr.out
            rw [hkk, List.take_length] at this
            exact this
          clear hpr hkk
          go_wp2_with fail
          go_meet
          exact ⟨HPE, hfr⟩
    case rest =>
      clear d1
      obtain ⟨hp2, hf2⟩ := hcut
      have HQ2 : Hid (wc.heap[w.heap.size]? = some (.cells #[.slice a1 m.vars.length c1, .slice a2 m.cons.length c2, .int .i64 m.goal, .int .i64 m.var] 25)) := (HX.out wc hf2.out).2
      have hltc : w.heap.size < wc.heap.size := (Array.getElem?_eq_some_iff.1 HQ2.out).1
      clear hp1 hf1 HQ1
      have HGO := HOK.out.goal
      obtain ⟨k, hk⟩ : ∃ k : Nat, m.goal = (k : Int) := ⟨m.goal.toNat, by unfold GoalOk at HGO; omega⟩
      have hk2 : k ≤ 2 := by unfold GoalOk at HGO; omega
      obtain ⟨z, hz⟩ : ∃ z, goalWL[k]? = some z := by
        have : k < goalWL.length := by show k < 3; omega
        exact ⟨goalWL[k], List.getElem?_eq_getElem this⟩
      have HZ : Hid (goalWL[k]? = some z) := hz
      have HE : Hid (goalWB m.goal = z) := by show _ = _; unfold goalWB; rw [hk, List.getD_eq_getElem?_getD]; simp [hz]
      have e2 : wc.cell? ⟨w.heap.size, 2, none⟩ = some (.int .i64 (k : Int)) := by rw [← hk]; exact blk9 HQ2.out 2 _ rfl
      have hk0 : (0 : Int) ≤ (k : Int) := by omega
      have hk1 : (k : Int) < (goalWL.length : Int) := by show (k : Int) < 3; omega
      have HTL : Hid ((m.vars.flatMap varLine ++ m.cons.flatMap (conLine m.vars)).length ≤ 100000000) := by
        have h1 := flat_max varLine 10002 m.vars (fun y hy => (varLine_len (HOK.out.vars y hy)).2.1)
        have h2 := flat_max (conLine m.vars) 10002 m.cons (fun y hy => (conLine_len (names_short HOK.out.names) (HOK.out.cons y hy)).2)
        have h4 : m.cons.length * 10002 ≤ 8 * 10002 := Nat.mul_le_mul_right _ h8
        have h5 : m.vars.length * 10002 ≤ 6 * 10002 := Nat.mul_le_mul_right _ h6
        show _ ≤ _; rw [List.length_append]; omega
      have HJL : Hid ((joinB [solveW, z] [32]).length ≤ 10000 ∧ (joinB [solveW, z, nameOf m.vars m.var] [32]).length ≤ 10000) := by
        have h1 := goalLine_len (names_short HOK.out.names) HGO
        rw [HE.out] at h1
        exact ⟨h1.1, h1.2.1⟩
      have HGO : Hid (GoalOk m) := HGO
      have HLB : Hid (m.vars.flatMap varLine ++ m.cons.flatMap (conLine m.vars) ++ goalLine m = modB m) := by show _ = _; unfold modB; rw [List.append_assoc]
      obtain ⟨pre, hpre⟩ : ∃ pre, m.vars.flatMap varLine ++ m.cons.flatMap (conLine m.vars) = pre := ⟨_, rfl⟩
      rw [hpre] at hp2 HLB HTL
      clear hz hk hpre
      go_upto_region 11 with (fail)
      go_cut [8] (fun gl wx => gl = .string z ∧ Hid (Below wc.heap.size wc wx))
      case first =>
        go_region_law
          (rw [if_pos (by rfl)]; go_simp; go_at_call 167; refine (words_goals _).mono ?_; rintro e w2 ⟨sv, rfl, ⟨as_, cs_, rfl, hm_, hsv⟩, hb2⟩; obtain ⟨bk, off, rfl, hbk, hcell⟩ := hsv k z HZ.out; have kc := (hb2.cell (p := ⟨w.heap.size, 2, none⟩) hltc).trans e2; dsimp only)
        all_goals (go_wp2_with fail; go_meet; exact ⟨rfl, (Below.refl _ _).drew.trans hb2⟩)
      case rest =>
        obtain ⟨hgl, hb3⟩ := hcut
        subst hgl
        clear e2
        have HQ3 : Hid (wc.heap[w.heap.size]? = some (.cells #[.slice a1 m.vars.length c1, .slice a2 m.cons.length c2, .int .i64 m.goal, .int .i64 m.var] 25)) := (hb3.out.block _ hltc).trans HQ2.out
        have j2 : wc.cell? ⟨w.heap.size, 2, none⟩ = some (.int .i64 m.goal) := blk9 HQ3.out 2 _ rfl
        have j3 : wc.cell? ⟨w.heap.size, 3, none⟩ = some (.int .i64 m.var) := blk9 HQ3.out 3 _ rfl
        have HPW : Hid (PrS N (w.heap.size + 1) b (.slice a1 m.vars.length c1) pre wc) := hp2.out.below hb3.out
        have HFW : Hid (Fr (XBB b (w.heap.size + 1)) W wc) := hf2.out.trans (Fr.below hb3.out)
        have HFE : Hid (∀ Y, Fr (XBB b (w.heap.size + 1)) W Y → Fr (XBB b w.heap.size) w Y) := fun Y hY =>
          (Fr.below HBW.out).trans ⟨hY.os, hY.tape, hY.output, hY.size, fun q hq hx => hY.block q hq (fun h => hx (by rcases h with h | h; exact Or.inl h; exact Or.inr (by omega)))⟩
        clear hp2 hf2 hb3 HQ2
        cases t0 : (m.goal == 0)
        · have HLG : Hid (goalLine m = lineL [solveW, z, nameOf m.vars m.var]) := by
            show _ = _; unfold goalLine; rw [if_neg (by simpa using t0), HE.out]
          have HVR : Hid (0 ≤ m.var ∧ m.var < (m.vars.length : Int)) := by
            have h1 := HGO.out
            unfold GoalOk at h1
            have h2 : ¬ m.goal = 0 := by simpa using t0
            show _ ∧ _
            omega
          have HVA : Hid (VArg wc (.slice a1 m.vars.length c1) m.vars) := VArg.below (HX.out wc HFW.out).1 HM.out.1
          have HCV : Hid (wc.cell? ⟨b, 2, none⟩ = some (.slice a1 m.vars.length c1)) := by
            obtain ⟨p, buf, _, hk, _⟩ := HPW.out.blk
            exact blk9 hk 2 _ rfl
          go_wp2_with fail
          refine (pname_any b _ m.vars m.var wc HCV.out HVA.out HVR.out).mono ?_
          rintro e w3 ⟨rfl, rfl⟩
          go_wp2_with fail
          refine (pline_any N (w.heap.size + 1) b _ pre [solveW, z, nameOf m.vars m.var] _ _ (HPW.out.below (below_alloc _ _)) (SOwn.arg (SOwn.new [solveW, z, nameOf m.vars m.var] 0 3 _ _ (Nat.zero_le _) rfl (by decide) rfl)) (by simp) (by have := HJL.out; omega) HTL.out).mono ?_
          rintro e w5 ⟨rfl, hp5, hf5⟩
          have HP5 : Hid (PrS N (w.heap.size + 1) b (.slice a1 m.vars.length c1) (modB m) w5) := by rw [← HLB.out, HLG.out]; exact hp5
          have HF5 : Hid (Fr (XBB b w.heap.size) w w5) := HFE.out _ ((HFW.out.trans (Fr.below (below_alloc _ _))).trans hf5)
          clear hp5 hf5
          go_wp2
          go_end0
          exact ⟨rfl, HP5.out, HF5.out⟩
        · have HLG : Hid (goalLine m = lineL [solveW, z]) := by
            show _ = _; unfold goalLine; rw [if_pos (by simpa using t0), HE.out]
          go_wp2_with fail
          refine (pline_any N (w.heap.size + 1) b _ pre [solveW, z] _ _ (HPW.out.below (below_alloc _ _)) (SOwn.arg (SOwn.new [solveW, z] 0 2 _ _ (Nat.zero_le _) rfl (by decide) rfl)) (by simp) (by have := HJL.out; omega) HTL.out).mono ?_
          rintro e w5 ⟨rfl, hp5, hf5⟩
          have HP5 : Hid (PrS N (w.heap.size + 1) b (.slice a1 m.vars.length c1) (modB m) w5) := by rw [← HLB.out, HLG.out]; exact hp5
          have HF5 : Hid (Fr (XBB b w.heap.size) w w5) := HFE.out _ ((HFW.out.trans (Fr.below (below_alloc _ _))).trans hf5)
          clear hp5 hf5
          go_wp2
          go_end0
          exact ⟨rfl, HP5.out, HF5.out⟩
end Go.Proofs.YtdjbejlbmaiocagGreatDoor
/-
  WALKS: package text: Print.
-/
namespace Go.Proofs.YtdjbejlbmaiocagGreatDoor
open Go.RowKit

set_option maxHeartbeats 1600000 in
set_option maxRecDepth 100000 in
theorem pstring_any (N B b : Nat) (vsl : Value) (l : List UInt8) (w : World) (h : PrS N B b vsl l w) (h0 : l ≠ []) :
    Calls Tryz.prog 112 #[.pointer (some ⟨b, 0, none⟩)] w fun e w' => e = .returned (.string ⟨l.toArray⟩) ∧ Below B w w' := by
  obtain ⟨_, _, _, _, p, buf, hp, hbk, hown⟩ := h
  have hl0 : l.length ≠ 0 := by simpa using h0
  obtain ⟨g, cap, cur, rfl, hbg, hg, hnc, hcm, hcs, htake⟩ : ∃ g cap cur, buf = .slice (some ⟨g, 0, none⟩) l.length cap ∧ B ≤ g ∧ w.heap[g]? = some (.cells cur 5 (0, 0)) ∧ l.length ≤ cap ∧ cap ≤ maxLen ∧ cur.size = cap * 1 ∧ cur.toList.take (l.length * 1) = Lib.byteCells l := by
    rcases hown.2 with ⟨_, hz⟩ | ⟨g, cap, cur, hv, r⟩
    · exact absurd hz hl0
    · exact ⟨g, cap, cur, hv, r⟩
  have c1 : w.drew.cell? ⟨b, 1, none⟩ = some (.slice (some ⟨g, 0, none⟩) l.length cap) := blk9 (w := w.drew) hbk 1 _ rfl
  have hSD : (Builtin.unsafeSliceData_ #[107] 217 #[.slice (some ⟨g, 0, none⟩) l.length cap]).run Tryz.prog w.drew = .ok (.pointer (some ⟨g, 0, none⟩)) w.drew :=
    Lib.run_unsafeSliceData_row _ _ _ _ _ _ (by omega)
  have hUS : (Builtin.unsafeString_ #[217, 3] 9 #[.pointer (some ⟨g, 0, none⟩), .int .i64 l.length]).run Tryz.prog w.drew = .ok (.string ⟨l.toArray⟩) (w.drew.freeze ⟨g, 0, none⟩ l.length) := by
    refine Lib.run_unsafeString_row w.drew 217 3 9 5 (by kernel_rfl) (by kernel_rfl) g cur.size (by have hg' : w.drew.heap[g]? = some (.cells cur 5 (0, 0)) := hg; simp [World.shape?, hg']) l h0 (by omega) (by unfold maxLen at hcm; omega) ?_
    intro j x hx
    have := hown.cells (g := g) rfl j (.int .u8 x.toNat) (by simp [Lib.byteCells, hx])
    exact this
  have HE : Hid (Below B w (w.drew.freeze ⟨g, 0, none⟩ l.length)) := Lib.below_freeze (Below.drew (Below.refl B w)) (p := ⟨g, 0, none⟩) hbg _
  clear hown htake hg hbk
  go_enter Tryz.func112, Tryz.ntmps112
  go_wp2
  go_region
  all_goals (go_wp2; go_ret; exact ⟨rfl, HE.out⟩)
/-- What Print answers. -/
def printA (m : Mod) : ByteArray × Int := if checkM m = 0 then (⟨(modB m).toArray⟩, 0) else (⟨#[]⟩, checkM m)
theorem goalLine_ne (m : Mod) : modB m ≠ [] := by
  unfold modB
  intro h
  have h1 := congrArg List.length h
  simp only [List.length_append, List.length_nil] at h1
  have h2 : 0 < (goalLine m).length := by
    unfold goalLine
    split <;> (unfold lineL; simp)
  omega
set_option maxHeartbeats 1600000 in
set_option maxRecDepth 100000 in
theorem print_any (N : Nat) (m : Mod) (vs cs : Value) (w : World) (hm : MArg w vs cs m) (ht : TabN N w) (hN : N ≤ w.heap.size) :
    Calls Tryz.prog 67 #[modV vs cs m] w fun e w' => e = .returned (.tuple #[.string (printA m).1, .int .i64 (printA m).2]) ∧ Below w.heap.size w w' := by
  have HM : Hid (MArg w vs cs m) := hm
  have HT : Hid (TabN N w) := ht
  obtain ⟨er, her⟩ : ∃ er, checkM m = er := ⟨_, rfl⟩
  obtain ⟨st, hst⟩ : ∃ st, (⟨(modB m).toArray⟩ : ByteArray) = st := ⟨_, rfl⟩
  have HER : Hid (checkM m = er) := her
  have HST : Hid ((⟨(modB m).toArray⟩ : ByteArray) = st) := hst
  have HPA : Hid (printA m = if er = 0 then (st, 0) else (⟨#[]⟩, er)) := by show _ = _; unfold printA; rw [her, hst]
  rw [HPA.out]
  clear her hst ht
  obtain ⟨⟨a1, c1, rfl, _, _⟩, ⟨a2, c2, rfl, _, _⟩⟩ := hm
  unfold modV
  go_enter Tryz.func67, Tryz.ntmps67
  go_wp2_with fail
  obtain ⟨W, hW⟩ : ∃ W, W = w.alloc (.cells #[.slice a1 m.vars.length c1, .slice a2 m.cons.length c2, .int .i64 m.goal, .int .i64 m.var] 25) := ⟨_, rfl⟩
  have HBW : Hid (Below w.heap.size w W) := by show Below _ _ _; rw [hW]; exact below_alloc _ _
  have HQ : Hid (W.heap[w.heap.size]? = some (.cells #[.slice a1 m.vars.length c1, .slice a2 m.cons.length c2, .int .i64 m.goal, .int .i64 m.var] 25)) := by show _ = _; rw [hW]; exact heap_alloc_new _ _
  rw [← hW]
  clear hW
  refine (check_model m _ _ W (MArg.below HBW.out HM.out)).mono ?_
  rw [HER.out]
  rintro e w1 ⟨rfl, hb1⟩
  have HB1 : Hid (Below w.heap.size w w1) := HBW.out.trans (hb1.mono HBW.out.size)
  have HQ1 : Hid (w1.heap[w.heap.size]? = some (.cells #[.slice a1 m.vars.length c1, .slice a2 m.cons.length c2, .int .i64 m.goal, .int .i64 m.var] 25)) := (hb1.block _ (Array.getElem?_eq_some_iff.1 HQ.out).1).trans HQ.out
  clear hb1
  cases t0 : (er == 0)
  · have he : ¬ er = 0 := by simpa using t0
    go_wp2
    go_ret2
    exact ⟨rfl, HB1.out⟩
  · have he : er = 0 := by simpa using t0
    subst he
    have k0 : w1.cell? ⟨w.heap.size, 0, none⟩ = some (.slice a1 m.vars.length c1) := blk9 HQ1.out 0 _ rfl
    have k1 : w1.cell? ⟨w.heap.size, 1, none⟩ = some (.slice a2 m.cons.length c2) := blk9 HQ1.out 1 _ rfl
    have k2 : w1.cell? ⟨w.heap.size, 2, none⟩ = some (.int .i64 m.goal) := blk9 HQ1.out 2 _ rfl
    have k3 : w1.cell? ⟨w.heap.size, 3, none⟩ = some (.int .i64 m.var) := blk9 HQ1.out 3 _ rfl
    have hlt : w.heap.size < w1.heap.size := (Array.getElem?_eq_some_iff.1 HQ1.out).1
    go_wp2_with fail
    obtain ⟨W2, hW2⟩ : ∃ W2, W2 = w1.alloc (.cells #[.pointer none, .slice none 0 0, .slice a1 m.vars.length c1] 166) := ⟨_, rfl⟩
    have HB2 : Hid (Below w1.heap.size w1 W2) := by show Below _ _ _; rw [hW2]; exact below_alloc _ _
    have HQ2 : Hid (W2.heap[w1.heap.size]? = some (.cells #[.pointer none, .slice none 0 0, .slice a1 m.vars.length c1] 166)) := by show _ = _; rw [hW2]; exact heap_alloc_new _ _
    rw [← hW2]
    clear hW2
    have HCV := checkM_vars m HER.out
    refine (show Calls Tryz.prog 119 #[.pointer (some ⟨w1.heap.size, 0, none⟩), modV (.slice a1 m.vars.length c1) (.slice a2 m.cons.length c2) m] W2 _ from pmodel_any N w1.heap.size m _ _ w1 W2 (MArg.below HB1.out HM.out) HB2.out (Nat.le_refl _) (by omega) ((HT.out.below HB1.out).below HB2.out) HQ2.out (mod_ok m HER.out) HCV.2.1 HCV.2.2.1).mono ?_
    rintro e w3 ⟨rfl, hp3, hf3⟩
    have HP3 : Hid (PrS N (W2.heap.size + 1) w1.heap.size (.slice a1 m.vars.length c1) (modB m) w3) := hp3
    have HB3 : Hid (Below w.heap.size w w3) := HB1.out.trans ((fr_below9 HB2.out hf3 (Nat.le_refl _) HB2.out.size).mono HB1.out.size)
    have hws : w.heap.size ≤ W2.heap.size + 1 := by have := HB2.out.size; omega
    clear hp3 hf3 HCV k0 k1 k2 k3
    go_wp2_with fail
    refine (pstring_any N _ _ _ (modB m) w3 HP3.out (goalLine_ne m)).mono ?_
    rw [HST.out]
    rintro e w4 ⟨rfl, hb4⟩
    have HB4 : Hid (Below w.heap.size w w4) := HB3.out.trans (hb4.mono hws)
    clear hb4
    go_wp2
    go_ret2
    exact ⟨rfl, HB4.out⟩
end Go.Proofs.YtdjbejlbmaiocagGreatDoor
/-
  WALKS: the reference's SameLists, SameClause, sameCon, SameModel, where both are the same.
-/
namespace Go.Proofs.YtdjbejlbmaiocagGreatDoor
open Go.RowKit

theorem RArg.at {w : World} {a : Option Addr} {n c : Nat} {l : List (List Int)} (h : RArg w (.slice a n c) l) (i : Nat) (r : List Int) (hr : l[i]? = some r) : ∃ b off x, a = some ⟨b, off, none⟩ ∧ b < w.heap.size ∧ w.cell? ⟨b, off + i, none⟩ = some x ∧ IArg w x r := by
  obtain ⟨a', c', hv, _, hh⟩ := h
  cases hv
  exact hh i r hr
theorem VArg.nth {w : World} {a : Option Addr} {n c : Nat} {l : List MVar} (h : VArg w (.slice a n c) l) (i : Nat) (t : MVar) (hr : l[i]? = some t) : t.name.size ≤ maxLen ∧ ∃ b off, a = some ⟨b, off, none⟩ ∧ b < w.heap.size ∧
    w.cell? ⟨b, off + i * 3, none⟩ = some (.string t.name) ∧ w.cell? ⟨b, off + i * 3 + 1, none⟩ = some (.int .i64 t.lo) ∧ w.cell? ⟨b, off + i * 3 + 2, none⟩ = some (.int .i64 t.hi) := by
  obtain ⟨a', c', hv, _, hh⟩ := h
  cases hv
  exact hh i t hr
theorem CArg.nth {w : World} {a : Option Addr} {n c : Nat} {l : List MCon} (h : CArg w (.slice a n c) l) (i : Nat) (t : MCon) (hr : l[i]? = some t) : ∃ b off vv vc vr vl, a = some ⟨b, off, none⟩ ∧ b < w.heap.size ∧
    w.cell? ⟨b, off + i * 6, none⟩ = some (.int .i64 t.kind) ∧ w.cell? ⟨b, off + i * 6 + 1, none⟩ = some vv ∧ w.cell? ⟨b, off + i * 6 + 2, none⟩ = some vc ∧
    w.cell? ⟨b, off + i * 6 + 3, none⟩ = some (.int .i64 t.n) ∧ w.cell? ⟨b, off + i * 6 + 4, none⟩ = some vr ∧ w.cell? ⟨b, off + i * 6 + 5, none⟩ = some vl ∧ KArg w vv vc vr vl t := by
  obtain ⟨a', c', hv, _, hh⟩ := h
  cases hv
  exact hh i t hr
set_option maxHeartbeats 1600000 in
set_option maxRecDepth 100000 in
theorem samelists_eq (s : List (List Int)) (v u : Value) (w : World) (hv : RArg w v s) (hu : RArg w u s) :
    Calls Tryz.prog 70 #[v, u] w fun e w' => e = .returned (.bool true) ∧ ∃ n, w' = w.drewN n := by
  have HA : Hid (RArg w v s) := hv
  have HA' : Hid (RArg w u s) := hu
  obtain ⟨a, c, rfl, hm, _⟩ := hv
  obtain ⟨a', c', rfl, hm', _⟩ := hu
  unfold maxLen at hm hm'
  obtain ⟨hm1, hm⟩ := hm
  obtain ⟨hm1', hm'⟩ := hm'
  have g0 : ((s.length : Int) != (s.length : Int)) = false := by simp
  go_enter Tryz.func70, Tryz.ntmps70
  go_wp2_with fail
  go_loopw [5] (fun i wr => ∃ m : Nat, m ≤ s.length ∧ i = .int .i64 m ∧ ∃ n, wr = w.drewN n) (fun i _ => s.length - (intOf i).toNat)
  case atStart => exact ⟨0, by omega, rfl, 0, rfl⟩
  case round =>
    obtain ⟨m, hml, rfl, nq, rfl⟩ := hrel
    by_cases hlt : m < s.length
    · obtain ⟨x, hx⟩ : ∃ x, s[m]? = some x := ⟨s[m], by simp [hlt]⟩
      obtain ⟨b, off, vx, rfl, hb, hc, hix⟩ := RArg.at HA.out m x hx
      obtain ⟨b', off', vy, rfl, hb', hd, hiy⟩ := RArg.at HA'.out m x hx
      have HIX : Hid (IArg w vx x) := hix
      have HIY : Hid (IArg w vy x) := hiy
      obtain ⟨a5, c5, rfl, _, _⟩ := hix
      obtain ⟨a6, c6, rfl, _, _⟩ := hiy
      clear hx
      have HS : Hid (∀ p q, Calls Tryz.prog 37 #[.slice a5 x.length c5, .slice a6 x.length c6] (w.drewN (p + q)) fun e w' => e = .returned (.bool true) ∧ ∃ n, w' = w.drewN (p + n)) := by
        intro p q
        refine (sameints_any x x _ _ (w.drewN (p + q)) HIX.out HIY.out).mono ?_
        rintro e w' ⟨rfl, n, rfl⟩
        exact ⟨by simp, q + n, by rw [drewN_drewN, Nat.add_assoc]⟩
      go_wp2
      go_quiet ((go_at_call 37; exact HS.out _ _))
      go_wp2
      go_roundw
      case rel => exact ⟨m + 1, by omega, by go_num, _, rfl⟩
      case measure => simp [intOf]; omega
    · go_wp2
      go_ret
      exact ⟨rfl, _, rfl⟩
set_option maxHeartbeats 3200000 in
set_option maxRecDepth 100000 in
theorem samecon_eq (c : MCon) (vv vc vr vl uv uc ur ul : Value) (w : World) (hv : KArg w vv vc vr vl c) (hu : KArg w uv uc ur ul c) :
    Calls Tryz.prog 82 #[conV vv vc vr vl c, conV uv uc ur ul c] w fun e w' => e = .returned (.bool true) ∧ Below w.heap.size w w' := by
  have HA : Hid (KArg w vv vc vr vl c) := hv
  have HB : Hid (KArg w uv uc ur ul c) := hu
  obtain ⟨⟨a1, c1, rfl, _, _⟩, ⟨a2, c2, rfl, _, _⟩, ⟨a3, c3, rfl, _, _⟩, ⟨a4, c4, rfl, _, _⟩⟩ := hv
  obtain ⟨⟨b1, d1, rfl, _, _⟩, ⟨b2, d2, rfl, _, _⟩, ⟨b3, d3, rfl, _, _⟩, ⟨b4, d4, rfl, _, _⟩⟩ := hu
  obtain ⟨W, hW⟩ : ∃ W, W = (w.alloc (.cells #[.int .i64 c.kind, .slice a1 c.vars.length c1, .slice a2 c.consts.length c2, .int .i64 c.n, .slice a3 c.rows.length c3, .slice a4 c.lits.length c4] 73)).alloc (.cells #[.int .i64 c.kind, .slice b1 c.vars.length d1, .slice b2 c.consts.length d2, .int .i64 c.n, .slice b3 c.rows.length d3, .slice b4 c.lits.length d4] 73) := ⟨_, rfl⟩
  have HW : Hid (W = (w.alloc (.cells #[.int .i64 c.kind, .slice a1 c.vars.length c1, .slice a2 c.consts.length c2, .int .i64 c.n, .slice a3 c.rows.length c3, .slice a4 c.lits.length c4] 73)).alloc (.cells #[.int .i64 c.kind, .slice b1 c.vars.length d1, .slice b2 c.consts.length d2, .int .i64 c.n, .slice b3 c.rows.length d3, .slice b4 c.lits.length d4] 73)) := hW
  have HBW : Hid (Below w.heap.size w W) := by show Below _ _ _; rw [hW]; exact (below_alloc _ _).alloc (below_alloc _ _).size _
  have q1 : W.heap[w.heap.size]? = some (.cells #[.int .i64 c.kind, .slice a1 c.vars.length c1, .slice a2 c.consts.length c2, .int .i64 c.n, .slice a3 c.rows.length c3, .slice a4 c.lits.length c4] 73) := by
    rw [hW]
    have h := (below_alloc (w.alloc (.cells #[.int .i64 c.kind, .slice a1 c.vars.length c1, .slice a2 c.consts.length c2, .int .i64 c.n, .slice a3 c.rows.length c3, .slice a4 c.lits.length c4] 73)) (.cells #[.int .i64 c.kind, .slice b1 c.vars.length d1, .slice b2 c.consts.length d2, .int .i64 c.n, .slice b3 c.rows.length d3, .slice b4 c.lits.length d4] 73)).block w.heap.size (by simp)
    rw [h]; exact heap_alloc_new _ _
  have q2 : W.heap[w.heap.size + 1]? = some (.cells #[.int .i64 c.kind, .slice b1 c.vars.length d1, .slice b2 c.consts.length d2, .int .i64 c.n, .slice b3 c.rows.length d3, .slice b4 c.lits.length d4] 73) := by
    rw [hW]
    have h := heap_alloc_new (w.alloc (.cells #[.int .i64 c.kind, .slice a1 c.vars.length c1, .slice a2 c.consts.length c2, .int .i64 c.n, .slice a3 c.rows.length c3, .slice a4 c.lits.length c4] 73)) (.cells #[.int .i64 c.kind, .slice b1 c.vars.length d1, .slice b2 c.consts.length d2, .int .i64 c.n, .slice b3 c.rows.length d3, .slice b4 c.lits.length d4] 73)
    simpa using h
  have HI1 : Hid (∀ n, Calls Tryz.prog 37 #[.slice a1 c.vars.length c1, .slice b1 c.vars.length d1] (W.drewN n) fun e w' => e = .returned (.bool true) ∧ ∃ k, w' = W.drewN k) := fun n => by
    refine (sameints_any c.vars c.vars _ _ (W.drewN n) (IArg.below (below_drewN HBW.out n) HA.out.1) (IArg.below (below_drewN HBW.out n) HB.out.1)).mono ?_
    rintro e w' ⟨rfl, k, rfl⟩
    exact ⟨by simp, n + k, drewN_drewN _ _ _⟩
  have HI2 : Hid (∀ n, Calls Tryz.prog 37 #[.slice a2 c.consts.length c2, .slice b2 c.consts.length d2] (W.drewN n) fun e w' => e = .returned (.bool true) ∧ ∃ k, w' = W.drewN k) := fun n => by
    refine (sameints_any c.consts c.consts _ _ (W.drewN n) (IArg.below (below_drewN HBW.out n) HA.out.2.1) (IArg.below (below_drewN HBW.out n) HB.out.2.1)).mono ?_
    rintro e w' ⟨rfl, k, rfl⟩
    exact ⟨by simp, n + k, drewN_drewN _ _ _⟩
  have HI3 : Hid (∀ n, Calls Tryz.prog 70 #[.slice a3 c.rows.length c3, .slice b3 c.rows.length d3] (W.drewN n) fun e w' => e = .returned (.bool true) ∧ ∃ k, w' = W.drewN k) := fun n => by
    refine (samelists_eq c.rows _ _ (W.drewN n) (RArg.below (below_drewN HBW.out n) HA.out.2.2.1) (RArg.below (below_drewN HBW.out n) HB.out.2.2.1)).mono ?_
    rintro e w' ⟨rfl, k, rfl⟩
    exact ⟨rfl, n + k, drewN_drewN _ _ _⟩
  have HI4 : Hid (∀ n, Calls Tryz.prog 48 #[.slice a4 c.lits.length c4, .slice b4 c.lits.length d4] (W.drewN n) fun e w' => e = .returned (.bool true) ∧ ∃ k, w' = W.drewN k) := fun n => by
    refine (sameclause_eq c.lits _ _ (W.drewN n) (LArg.below (below_drewN HBW.out n) HA.out.2.2.2) (LArg.below (below_drewN HBW.out n) HB.out.2.2.2)).mono ?_
    rintro e w' ⟨rfl, k, rfl⟩
    exact ⟨rfl, n + k, drewN_drewN _ _ _⟩
  have HEN : Hid (∀ n, Below w.heap.size w (W.drewN n)) := fun n => below_drewN HBW.out n
  have k0 : W.cell? ⟨w.heap.size, 0, none⟩ = some (.int .i64 c.kind) := blk9 q1 0 _ rfl
  have k1 : W.cell? ⟨w.heap.size, 1, none⟩ = some (.slice a1 c.vars.length c1) := blk9 q1 1 _ rfl
  have k2 : W.cell? ⟨w.heap.size, 2, none⟩ = some (.slice a2 c.consts.length c2) := blk9 q1 2 _ rfl
  have k3 : W.cell? ⟨w.heap.size, 3, none⟩ = some (.int .i64 c.n) := blk9 q1 3 _ rfl
  have k4 : W.cell? ⟨w.heap.size, 4, none⟩ = some (.slice a3 c.rows.length c3) := blk9 q1 4 _ rfl
  have k5 : W.cell? ⟨w.heap.size, 5, none⟩ = some (.slice a4 c.lits.length c4) := blk9 q1 5 _ rfl
  have m0 : W.cell? ⟨w.heap.size + 1, 0, none⟩ = some (.int .i64 c.kind) := blk9 q2 0 _ rfl
  have m1 : W.cell? ⟨w.heap.size + 1, 1, none⟩ = some (.slice b1 c.vars.length d1) := blk9 q2 1 _ rfl
  have m2 : W.cell? ⟨w.heap.size + 1, 2, none⟩ = some (.slice b2 c.consts.length d2) := blk9 q2 2 _ rfl
  have m3 : W.cell? ⟨w.heap.size + 1, 3, none⟩ = some (.int .i64 c.n) := blk9 q2 3 _ rfl
  have m4 : W.cell? ⟨w.heap.size + 1, 4, none⟩ = some (.slice b3 c.rows.length d3) := blk9 q2 4 _ rfl
  have m5 : W.cell? ⟨w.heap.size + 1, 5, none⟩ = some (.slice b4 c.lits.length d4) := blk9 q2 5 _ rfl
  clear hW q1 q2
  unfold conV
  go_enter Tryz.func82, Tryz.ntmps82
  go_wp2_with fail
  rw [← HW.out]
  refine (HI1.out 0).mono ?_
  rintro e w1 ⟨rfl, n1, rfl⟩
  go_wp2_with fail
  refine (HI2.out n1).mono ?_
  rintro e w2 ⟨rfl, n2, rfl⟩
  go_wp2_with fail
  refine (HI3.out n2).mono ?_
  rintro e w3 ⟨rfl, n3, rfl⟩
  go_wp2_with fail
  refine (HI4.out n3).mono ?_
  rintro e w4 ⟨rfl, n4, rfl⟩
  go_wp2
  go_ret
  exact ⟨rfl, HEN.out _⟩
set_option maxHeartbeats 6400000 in
set_option maxRecDepth 100000 in
theorem samemodel_eq (m : Mod) (vs cs us ts : Value) (w : World) (hv : MArg w vs cs m) (hu : MArg w us ts m) :
    Calls Tryz.prog 36 #[modV vs cs m, modV us ts m] w fun e w' => e = .returned (.bool true) ∧ Below w.heap.size w w' := by
  have HA : Hid (MArg w vs cs m) := hv
  have HB : Hid (MArg w us ts m) := hu
  obtain ⟨⟨a1, c1, rfl, hm1, _⟩, ⟨a2, c2, rfl, hm2, _⟩⟩ := hv
  obtain ⟨⟨b1, d1, rfl, hm3, _⟩, ⟨b2, d2, rfl, hm4, _⟩⟩ := hu
  unfold maxLen at hm1 hm2 hm3 hm4
  obtain ⟨W, hW⟩ : ∃ W, W = (w.alloc (.cells #[.slice a1 m.vars.length c1, .slice a2 m.cons.length c2, .int .i64 m.goal, .int .i64 m.var] 25)).alloc (.cells #[.slice b1 m.vars.length d1, .slice b2 m.cons.length d2, .int .i64 m.goal, .int .i64 m.var] 25) := ⟨_, rfl⟩
  have HW : Hid (W = (w.alloc (.cells #[.slice a1 m.vars.length c1, .slice a2 m.cons.length c2, .int .i64 m.goal, .int .i64 m.var] 25)).alloc (.cells #[.slice b1 m.vars.length d1, .slice b2 m.cons.length d2, .int .i64 m.goal, .int .i64 m.var] 25)) := hW
  have HBW : Hid (Below w.heap.size w W) := by show Below _ _ _; rw [hW]; exact (below_alloc _ _).alloc (below_alloc _ _).size _
  have q1 : W.heap[w.heap.size]? = some (.cells #[.slice a1 m.vars.length c1, .slice a2 m.cons.length c2, .int .i64 m.goal, .int .i64 m.var] 25) := by
    rw [hW]
    have h := (below_alloc (w.alloc (.cells #[.slice a1 m.vars.length c1, .slice a2 m.cons.length c2, .int .i64 m.goal, .int .i64 m.var] 25)) (.cells #[.slice b1 m.vars.length d1, .slice b2 m.cons.length d2, .int .i64 m.goal, .int .i64 m.var] 25)).block w.heap.size (by simp)
    rw [h]; exact heap_alloc_new _ _
  have q2 : W.heap[w.heap.size + 1]? = some (.cells #[.slice b1 m.vars.length d1, .slice b2 m.cons.length d2, .int .i64 m.goal, .int .i64 m.var] 25) := by
    rw [hW]
    have h := heap_alloc_new (w.alloc (.cells #[.slice a1 m.vars.length c1, .slice a2 m.cons.length c2, .int .i64 m.goal, .int .i64 m.var] 25)) (.cells #[.slice b1 m.vars.length d1, .slice b2 m.cons.length d2, .int .i64 m.goal, .int .i64 m.var] 25)
    simpa using h
  have hl1 : w.heap.size < W.heap.size := (Array.getElem?_eq_some_iff.1 q1).1
  have hl2 : w.heap.size + 1 < W.heap.size := (Array.getElem?_eq_some_iff.1 q2).1
  have k0 : W.cell? ⟨w.heap.size, 0, none⟩ = some (.slice a1 m.vars.length c1) := blk9 q1 0 _ rfl
  have k1 : W.cell? ⟨w.heap.size, 1, none⟩ = some (.slice a2 m.cons.length c2) := blk9 q1 1 _ rfl
  have k2 : W.cell? ⟨w.heap.size, 2, none⟩ = some (.int .i64 m.goal) := blk9 q1 2 _ rfl
  have k3 : W.cell? ⟨w.heap.size, 3, none⟩ = some (.int .i64 m.var) := blk9 q1 3 _ rfl
  have m0 : W.cell? ⟨w.heap.size + 1, 0, none⟩ = some (.slice b1 m.vars.length d1) := blk9 q2 0 _ rfl
  have m1 : W.cell? ⟨w.heap.size + 1, 1, none⟩ = some (.slice b2 m.cons.length d2) := blk9 q2 1 _ rfl
  have m2 : W.cell? ⟨w.heap.size + 1, 2, none⟩ = some (.int .i64 m.goal) := blk9 q2 2 _ rfl
  have m3 : W.cell? ⟨w.heap.size + 1, 3, none⟩ = some (.int .i64 m.var) := blk9 q2 3 _ rfl
  have g0 : ((m.vars.length : Int) != (m.vars.length : Int)) = false := by simp
  have g1 : ((m.cons.length : Int) != (m.cons.length : Int)) = false := by simp
  have g2 : (m.goal != m.goal) = false := by simp
  have g3 : (m.var != m.var) = false := by simp
  clear hW q1 q2
  unfold modV
  go_enter Tryz.func36, Tryz.ntmps36
  go_wp2_with fail
  rw [← HW.out]
  clear HW
  go_loopw [5] (fun i wr => ∃ k : Nat, k ≤ m.vars.length ∧ i = .int .i64 k ∧ ∃ n, wr = W.drewN n) (fun i _ => m.vars.length - (intOf i).toNat)
  case atStart => exact ⟨0, by omega, rfl, 0, rfl⟩
  case round =>
    obtain ⟨k, hk, rfl, nq, rfl⟩ := hrel
    by_cases hlt : k < m.vars.length
    · obtain ⟨x, hx⟩ : ∃ x, m.vars[k]? = some x := ⟨m.vars[k], by simp [hlt]⟩
      obtain ⟨_, bb, off, rfl, hb, e0, e1, e2⟩ := VArg.nth (VArg.below HBW.out HA.out.1) k x hx
      obtain ⟨_, bb', off', rfl, hb', f0, f1, f2⟩ := VArg.nth (VArg.below HBW.out HB.out.1) k x hx
      clear hx
      go_wp2
      go_quiet (fail)
      go_wp2
      go_roundw
      case rel => exact ⟨k + 1, by omega, by go_num, _, rfl⟩
      case measure => simp [intOf]; omega
    · go_wp2_with fail
      go_loopw [6] (fun i wr => ∃ k : Nat, k ≤ m.cons.length ∧ i = .int .i64 k ∧ Hid (Below W.heap.size W wr)) (fun i _ => m.cons.length - (intOf i).toNat)
      case atStart => exact ⟨0, by omega, rfl, below_drewN (Below.refl _ _) _⟩
      case round =>
        obtain ⟨k, hk, rfl, hbw⟩ := hrel
        have u1 := (hbw.out.cell (p := ⟨w.heap.size, 1, none⟩) hl1).trans k1
        have v1 := (hbw.out.cell (p := ⟨w.heap.size + 1, 1, none⟩) hl2).trans m1
        have hl1 : w.heap.size < wr.heap.size := Nat.lt_of_lt_of_le hl1 hbw.out.size
        have hl2 : w.heap.size + 1 < wr.heap.size := Nat.lt_of_lt_of_le hl2 hbw.out.size
        by_cases hlt2 : k < m.cons.length
        · obtain ⟨x, hx⟩ : ∃ x, m.cons[k]? = some x := ⟨m.cons[k], by simp [hlt2]⟩
          have HBR : Hid (Below w.heap.size w wr) := HBW.out.trans (hbw.out.mono HBW.out.size)
          obtain ⟨bb, off, vv, vc, vr, vl, rfl, hb, e0, e1, e2, e3, e4, e5, hka⟩ := CArg.nth (CArg.below HBR.out HA.out.2) k x hx
          obtain ⟨bb', off', uv, uc, ur, ul, rfl, hb', f0, f1, f2, f3, f4, f5, hkb⟩ := CArg.nth (CArg.below HBR.out HB.out.2) k x hx
          have HKA : Hid (KArg wr vv vc vr vl x) := hka
          have HKB : Hid (KArg wr uv uc ur ul x) := hkb
          obtain ⟨⟨p1, r1, rfl, _, _⟩, ⟨p2, r2, rfl, _, _⟩, ⟨p3, r3, rfl, _, _⟩, ⟨p4, r4, rfl, _, _⟩⟩ := hka
          obtain ⟨⟨t1, s1, rfl, _, _⟩, ⟨t2, s2, rfl, _, _⟩, ⟨t3, s3, rfl, _, _⟩, ⟨t4, s4, rfl, _, _⟩⟩ := hkb
          have HSC : Hid (∀ Y, Below wr.heap.size wr Y → Calls Tryz.prog 82 #[conV (.slice p1 x.vars.length r1) (.slice p2 x.consts.length r2) (.slice p3 x.rows.length r3) (.slice p4 x.lits.length r4) x, conV (.slice t1 x.vars.length s1) (.slice t2 x.consts.length s2) (.slice t3 x.rows.length s3) (.slice t4 x.lits.length s4) x] Y fun e w' => e = .returned (.bool true) ∧ Below wr.heap.size wr w') := fun Y hY => by
            refine (samecon_eq x _ _ _ _ _ _ _ _ Y (KArg.below hY HKA.out) (KArg.below hY HKB.out)).mono ?_
            rintro e w' ⟨rfl, hb⟩
            exact ⟨rfl, hY.trans (hb.mono hY.size)⟩
          have hk3 : (k : Int) < (m.cons.length : Int) := by omega
          have hk4 : (0 : Int) ≤ (k : Int) := by omega
          clear hx k0 k1 k2 k3 m0 m1 m2 m3
          go_wp2_with fail
          go_region_held3 (fun Y => Below wr.heap.size wr Y ∧ Y.cell? ⟨w.heap.size, 1, none⟩ = some (.slice (some ⟨bb, off, none⟩) m.cons.length c2) ∧ Y.cell? ⟨w.heap.size + 1, 1, none⟩ = some (.slice (some ⟨bb', off', none⟩) m.cons.length d2) ∧ Y.cell? ⟨bb, off + k * 6, none⟩ = some (.int .i64 x.kind) ∧ Y.cell? ⟨bb, off + k * 6 + 1, none⟩ = some (.slice p1 x.vars.length r1) ∧ Y.cell? ⟨bb, off + k * 6 + 2, none⟩ = some (.slice p2 x.consts.length r2) ∧ Y.cell? ⟨bb, off + k * 6 + 3, none⟩ = some (.int .i64 x.n) ∧ Y.cell? ⟨bb, off + k * 6 + 4, none⟩ = some (.slice p3 x.rows.length r3) ∧ Y.cell? ⟨bb, off + k * 6 + 5, none⟩ = some (.slice p4 x.lits.length r4) ∧ Y.cell? ⟨bb', off' + k * 6, none⟩ = some (.int .i64 x.kind) ∧ Y.cell? ⟨bb', off' + k * 6 + 1, none⟩ = some (.slice t1 x.vars.length s1) ∧ Y.cell? ⟨bb', off' + k * 6 + 2, none⟩ = some (.slice t2 x.consts.length s2) ∧ Y.cell? ⟨bb', off' + k * 6 + 3, none⟩ = some (.int .i64 x.n) ∧ Y.cell? ⟨bb', off' + k * 6 + 4, none⟩ = some (.slice t3 x.rows.length s3) ∧ Y.cell? ⟨bb', off' + k * 6 + 5, none⟩ = some (.slice t4 x.lits.length s4))
            ((refine (fun (hB : Below wr.heap.size wr _) => ⟨hB, (hB.cell (p := ⟨w.heap.size, 1, none⟩) hl1).trans u1, (hB.cell (p := ⟨w.heap.size + 1, 1, none⟩) hl2).trans v1, (hB.cell (p := ⟨bb, off + k * 6, none⟩) hb).trans e0, (hB.cell (p := ⟨bb, off + k * 6 + 1, none⟩) hb).trans e1, (hB.cell (p := ⟨bb, off + k * 6 + 2, none⟩) hb).trans e2, (hB.cell (p := ⟨bb, off + k * 6 + 3, none⟩) hb).trans e3, (hB.cell (p := ⟨bb, off + k * 6 + 4, none⟩) hb).trans e4, (hB.cell (p := ⟨bb, off + k * 6 + 5, none⟩) hb).trans e5, (hB.cell (p := ⟨bb', off' + k * 6, none⟩) hb').trans f0, (hB.cell (p := ⟨bb', off' + k * 6 + 1, none⟩) hb').trans f1, (hB.cell (p := ⟨bb', off' + k * 6 + 2, none⟩) hb').trans f2, (hB.cell (p := ⟨bb', off' + k * 6 + 3, none⟩) hb').trans f3, (hB.cell (p := ⟨bb', off' + k * 6 + 4, none⟩) hb').trans f4, (hB.cell (p := ⟨bb', off' + k * 6 + 5, none⟩) hb').trans f5⟩ : Below wr.heap.size wr _ → _) ?_; first | exact (Below.refl _ _).drew | exact hbq3 | exact (show Below wr.heap.size wr _ ∧ _ by assumption).1))
            ((go_at_call 82; refine (HSC.out _ (show Below wr.heap.size wr _ ∧ _ by assumption).1).mono ?_; rintro e w3 ⟨rfl, hbq3⟩))
          have HB3 : Hid (Below W.heap.size W _) := hbw.out.trans (hbq3.mono hbw.out.size)
          go_wp2
          go_roundw
          case rel => exact ⟨k + 1, by omega, by go_num, HB3⟩
          case measure => simp [intOf]; omega
        · have HEN : Hid (Below w.heap.size w wr) := HBW.out.trans (hbw.out.mono HBW.out.size)
          go_wp2
          go_ret
          exact ⟨rfl, HEN.out⟩
end Go.Proofs.YtdjbejlbmaiocagGreatDoor
/-
  WALKS: textBegun, TextBack.
-/
namespace Go.Proofs.YtdjbejlbmaiocagGreatDoor
open Go.RowKit

theorem numB_0 : numB 0 = ⟨#[48]⟩ := by unfold numB Lib.itoa; rw [if_neg (by decide)]; rw [Lib.decDigits, dif_pos (by decide)]; rfl
theorem numB_1 : numB 1 = ⟨#[49]⟩ := by unfold numB Lib.itoa; rw [if_neg (by decide)]; rw [Lib.decDigits, dif_pos (by decide)]; rfl
theorem numB_2 : numB 2 = ⟨#[50]⟩ := by unfold numB Lib.itoa; rw [if_neg (by decide)]; rw [Lib.decDigits, dif_pos (by decide)]; rfl
theorem numB_m1 : numB (-1) = ⟨#[45, 49]⟩ := by unfold numB Lib.itoa; rw [if_pos (by decide)]; rw [Lib.decDigits, dif_pos (by decide)]; rfl
def twoT : List UInt8 := [118, 97, 114, 32, 120, 58, 32, 48, 46, 46, 50, 59, 10, 118, 97, 114, 32, 121, 58, 32, 48, 46, 46, 50, 59, 10, 99, 111, 110, 32, 108, 101, 32, 91, 49, 44, 32, 45, 49, 93, 32, 91, 120, 44, 32, 121, 93, 32, 45, 49, 59, 10, 115, 111, 108, 118, 101, 32, 108, 101, 97, 115, 116, 32, 121, 59, 10]
theorem two_text : modB twoM = twoT := by
  have hv : varLine ⟨⟨#[120]⟩, 0, 2⟩ = [118, 97, 114, 32, 120, 58, 32, 48, 46, 46, 50, 59, 10] := by
    unfold varLine; simp only; rw [numB_0, numB_2]; kernel_rfl
  have hw : varLine ⟨⟨#[121]⟩, 0, 2⟩ = [118, 97, 114, 32, 121, 58, 32, 48, 46, 46, 50, 59, 10] := by
    unfold varLine; simp only; rw [numB_0, numB_2]; kernel_rfl
  have hc : conLine twoM.vars ⟨1, [0, 1], [1, -1], -1, [], []⟩ = [99, 111, 110, 32, 108, 101, 32, 91, 49, 44, 32, 45, 49, 93, 32, 91, 120, 44, 32, 121, 93, 32, 45, 49, 59, 10] := by
    unfold conLine partsB
    rw [if_pos (by decide)]
    unfold numsB
    simp only [List.map_cons, List.map_nil]
    rw [numB_1, numB_m1]; kernel_rfl
  have hg : goalLine twoM = [115, 111, 108, 118, 101, 32, 108, 101, 97, 115, 116, 32, 121, 59, 10] := by kernel_rfl
  show varLine ⟨⟨#[120]⟩, 0, 2⟩ ++ (varLine ⟨⟨#[121]⟩, 0, 2⟩ ++ []) ++ ((conLine twoM.vars ⟨1, [0, 1], [1, -1], -1, [], []⟩ ++ []) ++ goalLine twoM) = twoT
  rw [hv, hw, hc, hg]
  rfl
theorem two_prints : printA twoM = (⟨twoT.toArray⟩, 0) := by unfold printA; rw [if_pos two_checks, two_text]
theorem two_parses : parseA ⟨twoT.toArray⟩ = (twoM, 0, 0) := by
  have := print_parse twoM two_checks (by rw [two_text]; decide)
  rwa [two_text] at this
set_option maxHeartbeats 3200000 in
set_option maxRecDepth 100000 in
theorem begun_text (N : Nat) (w : World) (ht : TabN N w) (hN : N ≤ w.heap.size) :
    Calls Tryz.prog 27 #[] w fun e w' => e = .returned (.bool true) ∧ Below w.heap.size w w' := by
  have HT : Hid (TabN N w) := ht
  clear ht
  go_enter Tryz.func27, Tryz.ntmps27
  go_wp2_with fail
  refine (two_any _).mono ?_
  rintro e w1 ⟨vs, cs, rfl, hm1, hb1⟩
  have HB1 : Hid (Below w.heap.size w w1) := hb1
  have HM1 : Hid (MArg w1 vs cs twoM) := hm1
  clear hb1
  obtain ⟨⟨a1, c1, rfl, _, _⟩, ⟨a2, c2, rfl, _, _⟩⟩ := hm1
  go_wp2_with fail
  refine (print_any N twoM _ _ w1 HM1.out (HT.out.below HB1.out) (Nat.le_trans hN HB1.out.size)).mono ?_
  rw [two_prints]
  obtain ⟨st, hst⟩ : ∃ st, (⟨twoT.toArray⟩ : ByteArray) = st := ⟨_, rfl⟩
  have HST : Hid ((⟨twoT.toArray⟩ : ByteArray) = st) := hst
  simp only
  rw [hst]
  clear hst
  rintro e w2 ⟨rfl, hb2⟩
  have HB2 : Hid (Below w.heap.size w w2) := HB1.out.trans (hb2.mono HB1.out.size)
  clear hb2
  go_wp2_with fail
  refine (parse_any st (by rw [← HST.out]; unfold maxLen; decide) w2).mono ?_
  rw [← HST.out, two_parses, HST.out]
  simp only
  rintro e w3 ⟨us, ts, rfl, hm3, hb3⟩
  have HB3 : Hid (Below w.heap.size w w3) := HB2.out.trans (hb3.mono HB2.out.size)
  have HM3 : Hid (MArg w3 us ts twoM) := hm3.marg
  have hma := hm3.marg
  clear hb3 hm3
  obtain ⟨⟨b1, d1, rfl, _, _⟩, ⟨b2, d2, rfl, _, _⟩⟩ := hma
  unfold modV
  go_wp2_with fail
  obtain ⟨W, hW⟩ : ∃ W, W = w3.alloc (.cells #[.slice b1 twoM.vars.length d1, .slice b2 twoM.cons.length d2, .int .i64 twoM.goal, .int .i64 twoM.var] 25) := ⟨_, rfl⟩
  have HBW : Hid (Below w3.heap.size w3 W) := by show Below _ _ _; rw [hW]; exact below_alloc _ _
  have HQ : W.heap[w3.heap.size]? = some (.cells #[.slice b1 twoM.vars.length d1, .slice b2 twoM.cons.length d2, .int .i64 twoM.goal, .int .i64 twoM.var] 25) := by rw [hW]; exact heap_alloc_new _ _
  have hlt : w3.heap.size < W.heap.size := (Array.getElem?_eq_some_iff.1 HQ).1
  have k0 : W.cell? ⟨w3.heap.size, 0, none⟩ = some (.slice b1 twoM.vars.length d1) := blk9 HQ 0 _ rfl
  have k1 : W.cell? ⟨w3.heap.size, 1, none⟩ = some (.slice b2 twoM.cons.length d2) := blk9 HQ 1 _ rfl
  have k2 : W.cell? ⟨w3.heap.size, 2, none⟩ = some (.int .i64 twoM.goal) := blk9 HQ 2 _ rfl
  have k3 : W.cell? ⟨w3.heap.size, 3, none⟩ = some (.int .i64 twoM.var) := blk9 HQ 3 _ rfl
  rw [← hW]
  clear hW HQ
  have HM4 : Hid (MArg W (.slice b1 twoM.vars.length d1) (.slice b2 twoM.cons.length d2) twoM) := MArg.below HBW.out HM3.out
  have HB4 : Hid (Below w.heap.size w W) := HB3.out.trans (HBW.out.mono HB3.out.size)
  have t8 : (st.toList == twoT) = true := by rw [← HST.out, ba_list]; decide
  unfold twoT at t8
  clear HST
  go_region_held3 (fun Y => Below W.heap.size W Y ∧ Y.cell? ⟨w3.heap.size, 0, none⟩ = some (.slice b1 twoM.vars.length d1) ∧ Y.cell? ⟨w3.heap.size, 1, none⟩ = some (.slice b2 twoM.cons.length d2) ∧ Y.cell? ⟨w3.heap.size, 2, none⟩ = some (.int .i64 twoM.goal) ∧ Y.cell? ⟨w3.heap.size, 3, none⟩ = some (.int .i64 twoM.var))
    ((refine (fun (hB : Below W.heap.size W _) => ⟨hB, (hB.cell (p := ⟨w3.heap.size, 0, none⟩) hlt).trans k0, (hB.cell (p := ⟨w3.heap.size, 1, none⟩) hlt).trans k1, (hB.cell (p := ⟨w3.heap.size, 2, none⟩) hlt).trans k2, (hB.cell (p := ⟨w3.heap.size, 3, none⟩) hlt).trans k3⟩ : Below W.heap.size W _ → _) ?_; first | exact (Below.refl _ _).drew | exact hb6 | exact hb5 | exact (show Below W.heap.size W _ ∧ _ by assumption).1))
    (first
      | (go_at_call 47; refine (two_any _).mono ?_; rintro e w5 ⟨vs5, cs5, rfl, hm5, hbq⟩; have hb5 := call_below9 (by assumption) hbq; obtain ⟨a5, c5, rfl, _, _⟩ := id hm5.1; obtain ⟨a6, c6, rfl, _, _⟩ := id hm5.2; unfold modV)
      | (go_at_call 36; refine (show Calls Tryz.prog 36 #[modV (.slice b1 twoM.vars.length d1) (.slice b2 twoM.cons.length d2) twoM, modV (.slice a5 twoM.vars.length c5) (.slice a6 twoM.cons.length c6) twoM] w5 _ from samemodel_eq twoM _ _ _ _ w5 (MArg.below hb5 HM4.out) hm5).mono ?_; rintro e w6 ⟨rfl, hbq⟩; have hb6 := hb5.trans (hbq.mono hb5.size)))
  have HE : Hid (Below w.heap.size w w6) := HB4.out.trans (hb6.mono HB4.out.size)
  go_wp2
  go_ret
  exact ⟨rfl, HE.out⟩
theorem modB_len {m : Mod} (hok : ModOk m) (h6 : m.vars.length ≤ 6) (h8 : m.cons.length ≤ 8) : (modB m).length ≤ 1000000 := by
  have h1 := flat_max varLine 10002 m.vars (fun y hy => (varLine_len (hok.vars y hy)).2.1)
  have h2 := flat_max (conLine m.vars) 10002 m.cons (fun y hy => (conLine_len (names_short hok.names) (hok.cons y hy)).2)
  have h3 := (goalLine_len (names_short hok.names) hok.goal).2.2
  have h4 : m.cons.length * 10002 ≤ 8 * 10002 := Nat.mul_le_mul_right _ h8
  have h5 : m.vars.length * 10002 ≤ 6 * 10002 := Nat.mul_le_mul_right _ h6
  unfold modB
  rw [List.length_append, List.length_append]; omega
/-- What is printed of a right model: not too long, and parsed as it was if it is short. -/
theorem print_back {m : Mod} (h : checkM m = 0) : ∃ st, printA m = (st, 0) ∧ st.size ≤ 1000000 ∧ (st.size ≤ 4000 → parseA st = (m, 0, 0)) := by
  have hc := checkM_vars m h
  have hl := modB_len (mod_ok m h) hc.2.1 hc.2.2.1
  have hsz : (⟨(modB m).toArray⟩ : ByteArray).size = (modB m).length := by rw [← len_size]
  refine ⟨⟨(modB m).toArray⟩, by unfold printA; rw [if_pos h], by rw [hsz]; exact hl, fun h4 => print_parse m h (by rw [hsz] at h4; exact h4)⟩
end Go.Proofs.YtdjbejlbmaiocagGreatDoor
/-
  WALK: modelBegun.
-/
namespace Go.Proofs.YtdjbejlbmaiocagGreatDoor
open Go.RowKit

theorem two_holds : holdsA twoM 0 [0, 1] = (true, 0) := by kernel_rfl
theorem two_all : allA twoM [2, 1] = (false, 0) := by kernel_rfl
theorem sort01 : sortI [0, 1] = [0, 1] := by
  unfold sortI
  exact List.mergeSort_of_pairwise (by decide)
theorem two_scope : scopeA twoM 0 = ([0, 1], 0) := by
  have h0 : conCheck twoM 0 = 0 := by kernel_rfl
  unfold scopeA
  rw [if_pos h0]
  have h1 : scopeL (twoM.cons.getD (0 : Int).toNat noCon) = [0, 1] := by rfl
  unfold scopeC
  rw [h1, sort01]
  decide
/-- A list of two, written out. -/
theorem ilit2 {w : World} (a b : Int) (B : Nat) (h : B = w.heap.size) : IArg (w.alloc (.cells #[.int .i64 a, .int .i64 b] 3)) (.slice (some ⟨B, 0, none⟩) 2 2) [a, b] := by
  subst h
  refine ⟨_, 2, rfl, ⟨by simp, by unfold maxLen; omega⟩, fun i z hz => ?_⟩
  match i, hz with
  | 0, hz => cases hz; exact ⟨_, 0, rfl, by simp, by simp⟩
  | 1, hz => cases hz; exact ⟨_, 0, rfl, by simp, by simp⟩

set_option maxHeartbeats 1600000 in
set_option maxRecDepth 100000 in
theorem begun_model (w : World) :
    Calls Tryz.prog 18 #[] w fun e w' => e = .returned (.bool true) ∧ Below w.heap.size w w' := by
  go_enter Tryz.func18, Tryz.ntmps18
  go_wp2_with fail
  refine (two_any _).mono ?_
  rintro e w1 ⟨vs, cs, rfl, hm, hb1⟩
  have HM : Hid (MArg w1 vs cs twoM) := hm
  clear hm
  go_wp2_with fail
  refine (mholds_any twoM 0 [0, 1] vs cs _ _ (MArg.below (below_alloc _ _) HM.out) (ilit2 0 1 _ rfl)).mono ?_
  rintro e w2 ⟨rfl, hb2⟩
  rw [two_holds]
  have hs1 := hb1.size
  have hB2 : Below w.heap.size w w2 := (hb1.alloc hs1 _).trans (hb2.mono (by simp; omega))
  clear hb1 hb2 HM hs1
  go_wp2_with fail
  refine (two_any _).mono ?_
  rintro e w3 ⟨vs, cs, rfl, hm, hb3⟩
  have HM : Hid (MArg w3 vs cs twoM) := hm
  clear hm
  go_wp2_with fail
  refine (mall_any twoM [2, 1] vs cs _ _ (MArg.below (below_alloc _ _) HM.out) (ilit2 2 1 _ rfl)).mono ?_
  rintro e w4 ⟨rfl, hb4⟩
  rw [two_all]
  have hs2 := hB2.size
  have hs3 := hb3.size
  have hB4 : Below w.heap.size w w4 := hB2.trans ((((hb3.alloc hs3 _).trans (hb4.mono (by simp; omega)))).mono hs2)
  clear hb3 hb4 HM hs2 hs3 hB2
  go_wp2_with fail
  refine (two_any _).mono ?_
  rintro e w5 ⟨vs, cs, rfl, hm, hb5⟩
  go_wp2_with fail
  refine (mscope_any twoM 0 vs cs _ hm).mono ?_
  rintro e w6 ⟨x, rfl, hx, hb6⟩
  rw [two_scope] at hx ⊢
  have HX : Hid (∀ w' : World, Below w6.heap.size w6 w' → IArg w' x [0, 1]) := fun w' h => IArg.below h hx
  obtain ⟨a6, c6, rfl, _, _⟩ := hx
  have hs4 := hB4.size
  have hs5 := hb5.size
  have hB6 : Below w.heap.size w w6 := hB4.trans ((hb5.trans (hb6.mono hs5)).mono hs4)
  clear hb5 hb6 hm hs4 hs5 hB4
  go_wp2_with fail
  refine (two_any _).mono ?_
  rintro e w7 ⟨vs, cs, rfl, hm, hb7⟩
  go_wp2_with fail
  refine (check_model twoM vs cs _ hm).mono ?_
  rintro e w8 ⟨rfl, hb8⟩
  rw [two_checks]
  have hs7 := hb7.size
  have hB8 : Below w6.heap.size w6 w8 := hb7.trans (hb8.mono hs7)
  have hs8 := hB8.size
  clear hb7 hb8 hm hs7
  go_wp2_with fail
  refine (sameints_any [0, 1] [0, 1] _ _ _ (HX.out _ (hB8.alloc hs8 _)) (ilit2 0 1 _ rfl)).mono ?_
  rintro e w9 ⟨rfl, n, h9⟩
  rw [show decide (([0, 1] : List Int) = [0, 1]) = true from by decide]
  have hB9 : Below w.heap.size w w9 := hB6.trans (((hB8.alloc hs8 _).trans ((draws0 h9).mono (by simp; omega))).mono hB6.size)
  clear h9
  go_wp2
  go_ret
  exact ⟨rfl, hB9⟩
end Go.Proofs.YtdjbejlbmaiocagGreatDoor
