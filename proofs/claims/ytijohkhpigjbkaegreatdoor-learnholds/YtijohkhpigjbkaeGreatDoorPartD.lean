/-
  PART 4 of what the proof leans on (ModT, FilPlain, FixPlain2, PrfPlain, FenPlain, FenA, StoA).
-/
import Derived.Test.YtijohkhpigjbkaeGreatDoorPartC
import Derived.Laws.Bits64b
import Derived.Lib.TrailingZeros
import Derived.Laws.ShiftsVarLaws
/-
  WALK: package model: Scope.
-/
namespace Go.Proofs.YtijohkhpigjbkaeGreatDoor
open Go.RowKit Go.Sort

def scopeL (c : MCon) : List Int := c.vars ++ c.lits.map (·.var)
def scopeC (c : MCon) : List Int := compI (sortI (scopeL c))
def scopeA (m : Mod) (con : Int) : List Int × Int := if conCheck m con = 0 then (scopeC (m.cons.getD con.toNat noCon), 0) else ([], conCheck m con)

/-- Numbers with room: made. -/
theorem make_room (n : Nat) (hn : n ≤ 1000) (w : World) : ∃ w', Sem.run Tryz.prog (Instr.makeSlice 39 (.int .i64 0) (.int .i64 (n : Int))) w = .ok (.slice (some ⟨w.heap.size, 0, none⟩) 0 n) w' ∧
    w'.ownsRow w.heap.size 3 1 (.slice (some ⟨w.heap.size, 0, none⟩) 0 n) 0 [] ∧ Below w.heap.size w w' := by
  obtain ⟨i0, hi, hz0, hz1, hz2⟩ := info_parts Tryz.infoInt0
  obtain ⟨w', hrun, hown, hg⟩ := run_makeSlice_owned w w.heap.size 39 3 i0 (.int .i64 0) 1 Tryz.underInts0 hi hz0 hz1 .i64 .i64 n (by omega) (by rw [hz2]; omega) (by unfold maxLen; omega) (Nat.le_refl _)
  exact ⟨w', hrun, hown, (Below.refl _ _).grown hg (Nat.le_refl _) (fun k h => by cases h)⟩
/-- Nothing is appended. -/
theorem append_nothing (w : World) (ty : TypeId) (base n c : Nat) (v : Value) (xs : List Value) (hown : w.ownsRow base 3 1 v n xs) :
    (Builtin.append_ #[39, 39] ty #[v, .slice none 0 c]).run Tryz.prog w = .ok v w := by
  obtain ⟨i0, hi, hz0, hz1, hz2⟩ := info_parts Tryz.infoInt0
  rcases hown.2 with ⟨rfl, rfl⟩ | ⟨g, cap, cur, rfl, _, _, hnc, _⟩
  · simp [Builtin.append_, run_underlying Tryz.underInts0, sizeOf, typeInfo, hi, Builtin.lenOf, Builtin.firstCells]
  · simp [Builtin.append_, run_underlying Tryz.underInts0, sizeOf, typeInfo, hi, Builtin.lenOf, Builtin.firstCells, hnc, storeCells]
theorem ints_one (l : List Int) : ∀ u ∈ l.map (Value.int .i64), u.oneCell' = true := by
  intro u hu
  obtain ⟨z, _, rfl⟩ := List.mem_map.1 hu
  rfl
theorem add_at (b off j : Nat) : (⟨b, off, none⟩ : Addr).add j = ⟨b, off + j, none⟩ := by unfold Addr.add; split <;> simp_all

/-- Numbers are appended, whatever list they lie in. -/
theorem wpList_append_ints {w : World} {ops : Array Oper} {rest : List Oper} {o : Oper} {a : Act} {Q : Exit → Act → World → Prop} (hgd : o.guard = none) (s x : Operand)
    (ho : o.op = .call { callee := .builtin .append, args := #[s, x], argTypes := #[39, 39] }) (base : Nat)
    (v : Value) (xs : List Int) (hs : a.eval s = v) (hown : w.ownsRow base 3 1 v xs.length (xs.map (Value.int .i64)))
    (u : Value) (l : List Int) (hx : a.eval x = u) (hl : IArg w u l) (hn : xs.length + l.length ≤ 1000) (hbase : base ≤ w.heap.size)
    (h : ∀ v' w', w'.ownsRow base 3 1 v' (xs ++ l).length ((xs ++ l).map (Value.int .i64)) → w.grownBy w' v.ownBlock → (v ≠ .slice none 0 0 → v' ≠ .slice none 0 0) → wpList Tryz.prog ops Q rest (a.put o.dst v') w') : wpList Tryz.prog ops Q (o :: rest) a w := by
  obtain ⟨i0, hi, hz0, hz1, hz2⟩ := info_parts Tryz.infoInt0
  obtain ⟨q, c, rfl, hm, hc⟩ := hl
  cases q with
  | none =>
    have hl0 : l = [] := by
      cases l with
      | nil => rfl
      | cons z r => obtain ⟨b, off, hq, _⟩ := hc 0 z rfl; cases hq
    subst hl0
    refine wpList_plain hgd fun K hK => ?_
    have hr := append_nothing w o.type base xs.length c v _ hown
    unfold Oper.wp execOp
    simp only [ho, resolve, invoke, builtin, Sem.run_bind, Sem.run_pure, Result.andThen_ok, List.map_toArray, List.map_cons, List.map_nil, hs, hx, List.length_nil, hr]
    exact hK _ _ (h v w (by rw [List.append_nil]; exact hown) ⟨rfl, rfl, rfl, Nat.le_refl _, fun _ _ _ => rfl⟩ (fun h => h))
  | some ad =>
    refine wpList_append_own w hgd s x 39 ho base 3 i0 (.int .i64 0) 1 8 Tryz.underInts0 hi hz0 hz1 hz2 rfl (by decide) v xs.length _ hs hown ad l.length c (l.map (Value.int .i64)) hx (by simp) ?_ (ints_one l) (by unfold maxLen; omega) (by omega) hbase ?_
    · intro j y hy
      rw [List.getElem?_map] at hy
      obtain ⟨z, hz, rfl⟩ := Option.map_eq_some_iff.1 hy
      obtain ⟨b, off, hq, _, hcell⟩ := hc j z hz
      cases hq
      rw [add_at]; exact hcell
    · intro v' w' h1 h2 h3
      refine h v' w' (by rw [List.length_append, List.map_append]; exact h1) h2 (fun hv hv' => hv (h3.1 hv').1)

def accL (c : MCon) (k : Nat) : List Int := c.vars ++ (c.lits.take k).map (·.var)
theorem accL_zero (c : MCon) : accL c 0 = c.vars := by simp [accL]
theorem accL_next (c : MCon) (k : Nat) (t : MLit) (h : c.lits[k]? = some t) : accL c (k + 1) = accL c k ++ [t.var] := by
  unfold accL; rw [List.take_add_one, h]; simp
theorem accL_len (c : MCon) (k : Nat) (h : k ≤ c.lits.length) : (accL c k).length = c.vars.length + k := by
  unfold accL; simp; omega
theorem accL_all (c : MCon) : accL c c.lits.length = scopeL c := by unfold accL scopeL; rw [List.take_length]
theorem own_shape {w : World} {base n : Nat} {v : Value} {xs : List Value} (h : w.ownsRow base 3 1 v n xs) : ∃ a cap, v = .slice a n cap := by
  rcases h.2 with ⟨rfl, rfl⟩ | ⟨g, cap, cur, rfl, _⟩
  · exact ⟨_, _, rfl⟩
  · exact ⟨_, _, rfl⟩
theorem own_there {w : World} {base n : Nat} {v : Value} {xs : List Value} (h : w.ownsRow base 3 1 v n xs) (hv : v ≠ .slice none 0 0) : ∃ g cap, v = .slice (some ⟨g, 0, none⟩) n cap ∧ base ≤ g ∧ n ≤ cap ∧ cap ≤ maxLen := by
  rcases h.2 with ⟨rfl, rfl⟩ | ⟨g, cap, cur, rfl, hg, _, hc, hm, _⟩
  · exact absurd rfl hv
  · exact ⟨g, cap, rfl, hg, hc, hm⟩
theorem one_arg (w : World) (o : Obj) (z : Int) : IArg ((w.alloc o).alloc (.cells #[.int .i64 z] 3)) (.slice (some ⟨w.heap.size + 1, 0, none⟩) 1 1) [z] := by
  refine ⟨_, 1, rfl, ⟨by simp, by unfold maxLen; omega⟩, fun i y hy => ?_⟩
  match i, hy with
  | 0, hy => cases hy; exact ⟨_, 0, rfl, by simp, World.cell?_alloc_at _ _ _ _ (by simp)⟩

set_option maxHeartbeats 1600000 in
set_option maxRecDepth 100000 in
theorem mscope_any (m : Mod) (con : Int) (vs cs : Value) (w : World) (hm : MArg w vs cs m) :
    Calls Tryz.prog 54 #[modV vs cs m, .int .i64 con] w fun e w' => ∃ x, e = .returned (.tuple #[x, .int .i64 (scopeA m con).2]) ∧ IArg w' x (scopeA m con).1 ∧ Below w.heap.size w w' := by
  have HMA : Hid (∀ w' : World, Below w.heap.size w w' → MArg w' vs cs m) := fun w' h => MArg.below h hm
  obtain ⟨⟨a1, c1, rfl, _, _⟩, ⟨a2, c2, rfl, hl2, hr2⟩⟩ := hm
  have HC : Hid (∀ (i : Nat) (t : MCon), m.cons[i]? = some t → ∃ b off vv vc vr vl, a2 = some ⟨b, off, none⟩ ∧ b < w.heap.size ∧
    w.cell? ⟨b, off + i * 6, none⟩ = some (.int .i64 t.kind) ∧ w.cell? ⟨b, off + i * 6 + 1, none⟩ = some vv ∧ w.cell? ⟨b, off + i * 6 + 2, none⟩ = some vc ∧
    w.cell? ⟨b, off + i * 6 + 3, none⟩ = some (.int .i64 t.n) ∧ w.cell? ⟨b, off + i * 6 + 4, none⟩ = some vr ∧ w.cell? ⟨b, off + i * 6 + 5, none⟩ = some vl ∧ KArg w vv vc vr vl t) := hr2
  unfold maxLen at hl2
  obtain ⟨hl21, hl2⟩ := hl2
  obtain ⟨R, hR⟩ : ∃ R, scopeA m con = R := ⟨_, rfl⟩
  rw [hR]
  obtain ⟨er, her⟩ : ∃ er, conCheck m con = er := ⟨_, rfl⟩
  have HER : Hid (conCheck m con = er) := her
  have HE : Hid (R = if er = 0 then (scopeC (m.cons.getD con.toNat noCon), 0) else ([], er)) := by rw [← hR, ← her]; rfl
  clear hR her hr2
  unfold modV
  go_enter Tryz.func54, Tryz.ntmps54
  go_wp2_with fail
  refine (check_con m con (.slice a1 m.vars.length c1) (.slice a2 m.cons.length c2) _ ?_).mono ?_
  · exact HMA.out _ (below_alloc _ _)
  rintro e w1 ⟨rfl, hb1⟩
  rw [HER.out]
  have d1 : w1.cell? ⟨w.heap.size, 1, none⟩ = some (.slice a2 m.cons.length c2) := (hb1.cell (by simp)).trans (by simp)
  have HB1 : Hid (Below w.heap.size w w1) := (below_alloc _ _).trans (hb1.mono (by simp))
  have hs1 : w.heap.size + 1 ≤ w1.heap.size := by simpa using hb1.size
  clear hb1
  by_cases he : er = 0
  · subst he
    obtain ⟨o1, o2, o3⟩ := conCheck_ok m con HER.out
    obtain ⟨j, rfl⟩ : ∃ j : Nat, con = (j : Int) := ⟨con.toNat, by omega⟩
    have hjl : j < m.cons.length := by omega
    obtain ⟨c, hc⟩ : ∃ c, m.cons[j]? = some c := ⟨m.cons[j], by simp [hjl]⟩
    have HN : Hid (R = (scopeC c, 0)) := by
      rw [HE.out, if_pos rfl, Int.toNat_natCast, List.getD_eq_getElem?_getD, hc]; rfl
    obtain ⟨hn4, hl4, _, _⟩ := many_not c (con_facts _ _ (con_ok m o1 j c hc)).2.1
    obtain ⟨b, off, vv, vc, vr, vl, ha, hb, f0, f1, f2, f3, f4, f5, hka⟩ := HC.out j c hc
    subst ha
    have e0 := (HB1.out.cell (p := ⟨b, off + j * 6, none⟩) hb).trans f0
    have e1 := (HB1.out.cell (p := ⟨b, off + j * 6 + 1, none⟩) hb).trans f1
    have e2 := (HB1.out.cell (p := ⟨b, off + j * 6 + 2, none⟩) hb).trans f2
    have e3 := (HB1.out.cell (p := ⟨b, off + j * 6 + 3, none⟩) hb).trans f3
    have e4 := (HB1.out.cell (p := ⟨b, off + j * 6 + 4, none⟩) hb).trans f4
    have e5 := (HB1.out.cell (p := ⟨b, off + j * 6 + 5, none⟩) hb).trans f5
    obtain ⟨⟨q1, r1, rfl, hmv, hq1⟩, ⟨q2, r2, rfl, _, _⟩, ⟨q3, r3, rfl, _, _⟩, ⟨q4, r4, rfl, hm4, hq4⟩⟩ := hka
    have HQ1 : Hid (∀ (i : Nat) (z : Int), c.vars[i]? = some z → ∃ b off, q1 = some ⟨b, off, none⟩ ∧ b < w.heap.size ∧ w.cell? ⟨b, off + i, none⟩ = some (.int .i64 z)) := hq1
    have HQ4 : Hid (∀ (i : Nat) (t : MLit), c.lits[i]? = some t → ∃ b off, q4 = some ⟨b, off, none⟩ ∧ b < w.heap.size ∧
      w.cell? ⟨b, off + i * 3, none⟩ = some (.int .i64 t.var) ∧ w.cell? ⟨b, off + i * 3 + 1, none⟩ = some (.int .i64 t.op) ∧ w.cell? ⟨b, off + i * 3 + 2, none⟩ = some (.int .i64 t.n)) := hq4
    unfold maxLen at hm4
    obtain ⟨hm41, hm4⟩ := hm4
    obtain ⟨i0, hi, hz0, hz1, hz2⟩ := info_parts Tryz.infoInt0
    obtain ⟨wm, hrun, hown, hbm⟩ := make_room (c.vars.length + c.lits.length) (by omega) (w1.alloc (.cells #[.int .i64 c.kind, .slice q1 c.vars.length r1, .slice q2 c.consts.length r2, .int .i64 c.n, .slice q3 c.rows.length r3, .slice q4 c.lits.length r4] 88))
    have hcm1 : wm.cell? ⟨w1.heap.size, 1, none⟩ = some (.slice q1 c.vars.length r1) := (hbm.cell (by simp)).trans (by simp)
    have hcm5 : wm.cell? ⟨w1.heap.size, 5, none⟩ = some (.slice q4 c.lits.length r4) := (hbm.cell (by simp)).trans (by simp)
    have hsm : w1.heap.size + 1 ≤ wm.heap.size := by simpa using hbm.size
    have HBM : Hid (Below w.heap.size w wm) := (HB1.out.alloc HB1.out.size _).trans (hbm.mono (by simp; omega))
    rw [show (w1.alloc (.cells #[.int .i64 c.kind, .slice q1 c.vars.length r1, .slice q2 c.consts.length r2, .int .i64 c.n, .slice q3 c.rows.length r3, .slice q4 c.lits.length r4] 88)).heap.size = w1.heap.size + 1 by simp] at hown hrun
    rw [Int.natCast_add] at hrun
    obtain ⟨B, hBe⟩ : ∃ B, B = w1.heap.size + 1 := ⟨_, rfl⟩
    have HOWN : Hid (wm.ownsRow B 3 1 (.slice (some ⟨B, 0, none⟩) 0 (c.vars.length + c.lits.length)) 0 []) := by rw [hBe]; exact hown
    clear hc f0 f1 f2 f3 f4 f5 hb hq1 hq4 hbm hown o1 o2 o3
    have HIV : Hid (IArg wm (.slice q1 c.vars.length r1) c.vars) := IArg.below HBM.out ⟨q1, r1, rfl, hmv, HQ1.out⟩
    rw [← hBe] at hrun
    have hBw : w.heap.size + 2 ≤ B := by omega
    have hB1 : w1.heap.size < B := by omega
    have hBm : B ≤ wm.heap.size := by omega
    clear hBe
    go_wp2_with (at_builtin; refine wpList_append_ints rfl _ _ rfl B _ [] rfl HOWN.out _ c.vars rfl HIV.out (by simp; omega) hBm ?_)
    intro v3 w3 hown3 hg3 hnn3
    have HB3 : Hid (Below w.heap.size w w3) := HBM.out.grown hg3 HBM.out.size (fun k h => by cases h; exact (by omega : w.heap.size ≤ B))
    have hne : some w1.heap.size ≠ some B := fun h => by have := Option.some.inj h; omega
    have hc5 : w3.cell? ⟨w1.heap.size, 5, none⟩ = some (.slice q4 c.lits.length r4) := hg3.cell hcm5 hne
    clear hne
    have hs3 : B ≤ w3.heap.size := Nat.le_trans hBm hg3.size
    have HOWN3 : Hid (w3.ownsRow B 3 1 v3 (accL c 0).length ((accL c 0).map (Value.int .i64))) := by rw [accL_zero]; exact hown3
    have HNN3 : Hid (v3 ≠ .slice none 0 0) := by first | exact hnn3 | exact hnn3 (by simp)
    clear hown3 hg3 hnn3 hcm1 hcm5 hrun HOWN HIV e0 e1 e2 e3 e4 e5 d1
    go_wp2_with fail
    clear hc5
    go_loopw [8, 37] (fun v i wr => ∃ k : Nat, k ≤ c.lits.length ∧ i = .int .i64 k ∧ wr.ownsRow B 3 1 v (accL c k).length ((accL c k).map (Value.int .i64)) ∧ Hid (v ≠ .slice none 0 0) ∧ Below w.heap.size w wr ∧ B ≤ wr.heap.size) (fun _ i _ => c.lits.length - (intOf i).toNat)
    case atStart => exact ⟨0, by omega, rfl, HOWN3.out, HNN3, HB3.out, hs3⟩
    case round =>
      obtain ⟨k, hk, rfl, hown, hnn, hbw, hsw⟩ := hrel
      by_cases hlt : k < c.lits.length
      · obtain ⟨t, ht⟩ : ∃ t, c.lits[k]? = some t := ⟨c.lits[k], by simp [hlt]⟩
        have HAC : Hid (accL c (k + 1) = accL c k ++ [t.var]) := accL_next c k t ht
        have hal : (accL c k).length ≤ 8 := by rw [accL_len c k hk]; omega
        obtain ⟨b4, off4, rfl, hb4, g0, g1, g2⟩ := HQ4.out k t ht
        have k0 := (hbw.cell (p := ⟨b4, off4 + k * 3, none⟩) hb4).trans g0
        have k1 := (hbw.cell (p := ⟨b4, off4 + k * 3 + 1, none⟩) hb4).trans g1
        have k2 := (hbw.cell (p := ⟨b4, off4 + k * 3 + 2, none⟩) hb4).trans g2
        have HOW : Hid (wr.ownsRow B 3 1 u8 (accL c k).length ((accL c k).map (Value.int .i64))) := hown
        have HBW : Hid (Below w.heap.size w wr) := hbw
        obtain ⟨ax, cx, rfl⟩ := own_shape hown
        obtain ⟨acc, hacc⟩ : ∃ acc, accL c k = acc := ⟨_, rfl⟩
        rw [hacc] at HAC hal HOW hnn ⊢
        clear ht g0 g1 g2 hb4 hown hbw hacc
        go_wp2_with (at_builtin; refine wpList_append_ints rfl _ _ rfl B _ acc rfl ((HOW.out.alloc _).alloc _) _ [t.var] rfl (one_arg _ _ _) (by simp; omega) (by simp; omega) ?_)
        intro v4 w4 hown4 hg4 hnn4
        have HO4 : Hid (w4.ownsRow B 3 1 v4 (acc ++ [t.var]).length ((acc ++ [t.var]).map (Value.int .i64))) := by
          show w4.ownsRow _ _ _ _ _ _
          rw [List.length_append, List.map_append]; first | exact hown4 | simpa using hown4
        have HB4 : Hid (Below w.heap.size w w4) := ((HBW.out.alloc HBW.out.size _).alloc (by have := HBW.out.size; simp; omega) _).grown hg4 (by have := HBW.out.size; simp; omega) (fun g h => by have := (HOW.out.lt g h).1; omega)
        have HN4 : Hid (v4 ≠ .slice none 0 0) := by
          have h := hnn.out
          first | exact hnn4 h | (intro h4; simp_all)
        have hs4 : B ≤ w4.heap.size := by have := hg4.size; simp at this; omega
        clear hown4 hg4 hnn4
        go_wp2
        go_roundw
        case rel => exact ⟨k + 1, by omega, by go_num, by rw [HAC.out]; exact HO4.out, HN4, HB4.out, hs4⟩
        case measure => simp [intOf]; omega
      · have hks : k = c.lits.length := by omega
        have HAC : Hid (accL c k = scopeL c) := by show _ = _; rw [hks]; exact accL_all c
        obtain ⟨g, cap, rfl, hg, hcap, hmx⟩ := own_there hown hnn.out
        have HIR : Hid (IRow wr g (scopeL c)) := by rw [← HAC.out]; exact irow_own hown
        have HBW : Hid (Below w.heap.size w wr) := hbw
        rw [HAC.out] at hcap ⊢
        have hn8 : (scopeL c).length ≤ 8 := by unfold scopeL; simp; omega
        clear hown hnn hbw hks
        go_wp2_with fail
        refine (sort_any (scopeL c) g cap w.heap.size _ HIR.out (by omega) (by omega)).mono ?_
        rintro e w5 ⟨rfl, hr5, hb5⟩
        have HR5 : Hid (IRow w5 g (sortI (scopeL c))) := hr5
        have HB5 : Hid (Below w.heap.size w w5) := HBW.out.trans hb5
        clear hr5 hb5
        go_wp2_with fail
        rw [← sortI_len (scopeL c)]
        refine (compact_any (sortI (scopeL c)) g cap w.heap.size _ HR5.out (by omega) (by rw [sortI_len]; omega) (by rw [sortI_len]; exact hcap)).mono ?_
        rintro e w6 ⟨rfl, hr6, hb6⟩
        have HF : Hid (IArg w6 (.slice (some ⟨g, 0, none⟩) (compI (sortI (scopeL c))).length cap) (scopeC c)) := irow_arg hr6 rfl (by have h1 := compI_len (sortI (scopeL c)); rw [sortI_len] at h1; omega) hmx
        have HB6 : Hid (Below w.heap.size w w6) := HB5.out.trans hb6
        clear hr6 hb6
        go_wp2
        go_ret2
        rw [HN.out]
        exact ⟨_, rfl, HF.out, HB6.out⟩
  · have HN : Hid (R = ([], er)) := by rw [HE.out, if_neg he]; rfl
    have he2 : (er != 0) = true := by simpa using he
    clear he
    go_wp2
    go_ret2
    rw [HN.out]
    exact ⟨_, rfl, ⟨none, 0, rfl, ⟨Nat.le_refl _, Nat.zero_le _⟩, fun i z h => by simp at h⟩, HB1.out⟩
end Go.Proofs.YtijohkhpigjbkaeGreatDoor
/-
  PLAIN: what a constraint by itself leaves of a store; that no values are lost; that twice is once; that less leaves less.
-/
namespace Go.Proofs.YtijohkhpigjbkaeGreatDoor

/-- All values that are tried, from a place of the scope on. -/
def reach (s : Sto) : List Int → List Int → List (List Int)
  | [], vals => [vals]
  | v :: r, vals => (s.getD v.toNat []).flatMap fun x => reach s r (vals.set v.toNat x)
def keysOf (scope u : List Int) : List (Int × Int) := scope.map fun v => (v, valAt u v)
/-- What is met, in its order. -/
def metK (c : MCon) (scope : List Int) (us : List (List Int)) : List (Int × Int) := us.flatMap fun u => if holdsC c u then keysOf scope u else []
def zerosOf (n : Nat) : List Int := List.replicate n 0
def metAll (c : MCon) (s : Sto) : List (Int × Int) := metK c (scopeC c) (reach s (scopeC c) (zerosOf s.length))
def staysB (c : MCon) (s : Sto) (k : Nat) (z : Int) : Bool :=
  if failedS s then true
  else if (scopeC c).length = 0 then holdsC c (zerosOf s.length)
  else if hasB (scopeC c) (k : Int) then (metAll c s).contains ((k : Int), z)
  else true
def filterS (c : MCon) (s : Sto) : Sto := siftS s (staysB c s)
def filterA (m : Mod) (con : Int) (s : Sto) : Sto × Int :=
  if checkL m [s] = 0 then (if conCheck m con = 0 then (filterS (m.cons.getD con.toNat noCon) s, 0) else ([], conCheck m con)) else ([], checkL m [s])

theorem mem_comp (zs : List Int) (x : Int) : x ∈ compI zs ↔ x ∈ zs := by
  unfold compI Lib.compact Lib.compactUpTo
  constructor
  · intro h
    obtain ⟨i, hi, rfl⟩ := List.mem_map.1 h
    have hi' : i < zs.length := List.mem_range.1 (List.mem_filter.1 hi).1
    simp [getElem!_pos, hi']
  · intro h
    obtain ⟨i, hi, rfl⟩ := List.mem_iff_getElem.1 h
    have key : ∀ (j : Nat) (hj : j < zs.length), zs[j] ∈ ((List.range zs.length).filter (Lib.keeps zs.toArray)).map (zs.toArray[·]!) := by
      intro j
      induction j with
      | zero =>
        intro hj
        exact List.mem_map.2 ⟨0, List.mem_filter.2 ⟨List.mem_range.2 hj, by simp [Lib.keeps]⟩, by simp [getElem!_pos, hj]⟩
      | succ j ih =>
        intro hj
        by_cases hk : Lib.keeps zs.toArray (j + 1) = true
        · exact List.mem_map.2 ⟨j + 1, List.mem_filter.2 ⟨List.mem_range.2 hj, hk⟩, by simp [getElem!_pos, hj]⟩
        · have he : zs[j + 1] = zs[j] := by
            have h1 : ¬ (j + 1 = 0 ∨ zs.toArray[j + 1]! ≠ zs.toArray[j + 1 - 1]!) := by simpa [Lib.keeps] using hk
            have h2 : zs.toArray[j + 1]! = zs.toArray[j]! := by
              by_cases h3 : zs.toArray[j + 1]! = zs.toArray[j]!
              · exact h3
              · exact absurd (Or.inr h3) h1
            rw [getElem!_pos zs.toArray (j + 1) (by simpa using hj), getElem!_pos zs.toArray j (by simp; omega)] at h2
            simpa using h2
          rw [he]
          exact ih (by omega)
    exact key i hi
theorem mem_scope (c : MCon) (x : Int) : x ∈ scopeC c ↔ x ∈ scopeL c := by
  unfold scopeC
  rw [mem_comp]
  unfold sortI
  exact (List.mergeSort_perm _ _).mem_iff
theorem ownV_same (vars a b : List Int) (h : ∀ v ∈ vars, valAt a v = valAt b v) : ownV vars a = ownV vars b := List.map_congr_left h
theorem litB_same (a b : List Int) (l : MLit) (h : valAt a l.var = valAt b l.var) : litB a l = litB b l := by unfold litB; rw [h]
/-- A constraint speaks of its scope alone. -/
theorem holds_scope (c : MCon) (a b : List Int) (h : ∀ v ∈ scopeC c, valAt a v = valAt b v) (hl : c.kind = 10 → c.lits ≠ []) : holdsC c a = holdsC c b := by
  have h0 : ∀ v ∈ c.vars, valAt a v = valAt b v := fun v hv => h v ((mem_scope c v).2 (List.mem_append_left _ hv))
  have h1 : ∀ l ∈ c.lits, litB a l = litB b l := fun l hl => litB_same a b l (h _ ((mem_scope c _).2 (List.mem_append_right _ (List.mem_map.2 ⟨l, hl, rfl⟩))))
  have h2 := ownV_same c.vars a b h0
  have h3 : c.lits.any (litB a) = c.lits.any (litB b) := by
    rw [Bool.eq_iff_iff, List.any_eq_true, List.any_eq_true]
    exact ⟨fun ⟨l, hm, hq⟩ => ⟨l, hm, by rw [← h1 l hm]; exact hq⟩, fun ⟨l, hm, hq⟩ => ⟨l, hm, by rw [h1 l hm]; exact hq⟩⟩
  by_cases hk : c.kind = 10
  · have h4 : litB a (c.lits.getD 0 ⟨0, 0, 0⟩) = litB b (c.lits.getD 0 ⟨0, 0, 0⟩) := by
      match hc : c.lits with
      | [] => exact absurd hc (hl hk)
      | l :: r => exact h1 l (by rw [hc]; exact List.mem_cons_self ..)
    unfold holdsC
    rw [h2, h3, h4]
  · unfold holdsC
    rw [h2, h3]
    simp only [hk, if_false]

theorem valAt_set_self (vals : List Int) (v x : Int) (h : v.toNat < vals.length) : valAt (vals.set v.toNat x) v = x := by
  unfold valAt; rw [List.getD_eq_getElem?_getD, List.getElem?_set_self h]; rfl
theorem valAt_set_ne (vals : List Int) (v x u : Int) (h : v.toNat ≠ u.toNat) : valAt (vals.set v.toNat x) u = valAt vals u := by
  unfold valAt; rw [List.getD_eq_getElem?_getD, List.getD_eq_getElem?_getD, List.getElem?_set_ne h]

theorem reach_len (s : Sto) : ∀ (r vals u : List Int), u ∈ reach s r vals → u.length = vals.length
  | [], vals, u, h => by simp [reach] at h; rw [h]
  | v :: r, vals, u, h => by
    unfold reach at h
    obtain ⟨x, _, hx⟩ := List.mem_flatMap.1 h
    have := reach_len s r _ u hx
    simpa using this
theorem reach_out (s : Sto) : ∀ (r vals u : List Int), u ∈ reach s r vals → ∀ w : Int, (∀ v ∈ r, v.toNat ≠ w.toNat) → valAt u w = valAt vals w
  | [], vals, u, h, w, _ => by simp [reach] at h; rw [h]
  | v :: r, vals, u, h, w, hw => by
    unfold reach at h
    obtain ⟨x, _, hx⟩ := List.mem_flatMap.1 h
    rw [reach_out s r _ u hx w (fun v' hv => hw v' (List.mem_cons_of_mem _ hv)), valAt_set_ne _ _ _ _ (hw v (List.mem_cons_self ..))]
theorem reach_in (s : Sto) : ∀ (r vals u : List Int), (∀ v ∈ r, v.toNat < vals.length) → u ∈ reach s r vals → ∀ w ∈ r, ∃ v ∈ r, v.toNat = w.toNat ∧ valAt u w ∈ s.getD v.toNat []
  | [], vals, u, _, h, w, hw => by cases hw
  | v :: r, vals, u, hb, h, w, hw => by
    unfold reach at h
    obtain ⟨x, hx0, hx⟩ := List.mem_flatMap.1 h
    by_cases hq : ∃ v' ∈ r, v'.toNat = w.toNat
    · obtain ⟨v', hv', he⟩ := hq
      obtain ⟨v2, hv2, he2, hm⟩ := reach_in s r _ u (fun v'' hv'' => by simpa using hb v'' (List.mem_cons_of_mem _ hv'')) hx v' hv'
      refine ⟨v2, List.mem_cons_of_mem _ hv2, by omega, ?_⟩
      have : valAt u w = valAt u v' := by unfold valAt; rw [he]
      rw [this]; exact hm
    · have hne : ∀ v' ∈ r, v'.toNat ≠ w.toNat := fun v' hv' he => hq ⟨v', hv', he⟩
      have hwv : w = v := by
        rcases List.mem_cons.1 hw with h | h
        · exact h
        · exact absurd rfl (hne w h)
      subst hwv
      refine ⟨w, List.mem_cons_self .., rfl, ?_⟩
      rw [reach_out s r _ u hx w hne, valAt_set_self _ _ _ (hb w (List.mem_cons_self ..))]
      exact hx0
theorem reach_hits (s : Sto) : ∀ (r vals u : List Int), (∀ v ∈ r, v.toNat < vals.length) → u.length = vals.length → (∀ v ∈ r, valAt u v ∈ s.getD v.toNat []) →
    (∀ w : Nat, (∀ v ∈ r, v.toNat ≠ w) → u[w]? = vals[w]?) → u ∈ reach s r vals
  | [], vals, u, _, hl, _, ho => by
    simp only [reach, List.mem_singleton]
    exact List.ext_getElem? fun w => ho w (fun v hv => by cases hv)
  | v :: r, vals, u, hb, hl, hi, ho => by
    unfold reach
    refine List.mem_flatMap.2 ⟨valAt u v, hi v (List.mem_cons_self ..), ?_⟩
    refine reach_hits s r _ u (fun v' hv' => by simpa using hb v' (List.mem_cons_of_mem _ hv')) (by simpa using hl) (fun v' hv' => hi v' (List.mem_cons_of_mem _ hv')) fun w hw => ?_
    by_cases hwv : w = v.toNat
    · subst hwv
      have hlt := hb v (List.mem_cons_self ..)
      rw [List.getElem?_set_self hlt]
      unfold valAt
      rw [List.getD_eq_getElem?_getD]
      rw [List.getElem?_eq_getElem (by omega)]; rfl
    · rw [List.getElem?_set_ne (fun h => hwv h.symm)]
      refine ho w fun v' hv' => ?_
      rcases List.mem_cons.1 hv' with rfl | h
      · exact fun h => hwv h.symm
      · exact hw v' h

/-- Values that agree but for a rest of the scope reach the same. -/
def Agree (r a b : List Int) : Prop := a.length = b.length ∧ ∀ w : Nat, (∀ v ∈ r, v.toNat ≠ w) → a[w]? = b[w]?
theorem Agree.refl (r a : List Int) : Agree r a a := ⟨rfl, fun _ _ => rfl⟩
theorem Agree.trans {r a b c : List Int} (h : Agree r a b) (k : Agree r b c) : Agree r a c := ⟨h.1.trans k.1, fun w hw => (h.2 w hw).trans (k.2 w hw)⟩
theorem Agree.symm {r a b : List Int} (h : Agree r a b) : Agree r b a := ⟨h.1.symm, fun w hw => (h.2 w hw).symm⟩
theorem Agree.cons {r a b : List Int} (v : Int) (h : Agree r a b) : Agree (v :: r) a b := ⟨h.1, fun w hw => h.2 w fun v' hv' => hw v' (List.mem_cons_of_mem _ hv')⟩
theorem Agree.set {r a b : List Int} {v : Int} (x : Int) (h : Agree (v :: r) a b) : Agree r (a.set v.toNat x) (b.set v.toNat x) := by
  refine ⟨by simpa using h.1, fun w hw => ?_⟩
  by_cases hwv : w = v.toNat
  · subst hwv
    by_cases hlt : v.toNat < a.length
    · rw [List.getElem?_set_self hlt, List.getElem?_set_self (by rw [← h.1]; exact hlt)]
    · rw [List.getElem?_eq_none (by simp; omega), List.getElem?_eq_none (by have := h.1; simp; omega)]
  · rw [List.getElem?_set_ne (fun h => hwv h.symm), List.getElem?_set_ne (fun h => hwv h.symm)]
    refine h.2 w fun v' hv' => ?_
    rcases List.mem_cons.1 hv' with rfl | h'
    · exact fun h => hwv h.symm
    · exact hw v' h'
theorem Agree.of_set (r a : List Int) (v x : Int) : Agree (v :: r) a (a.set v.toNat x) := by
  refine ⟨by simp, fun w hw => ?_⟩
  rw [List.getElem?_set_ne (hw v (List.mem_cons_self ..))]
theorem reach_same (s : Sto) : ∀ (r a b : List Int), Agree r a b → reach s r a = reach s r b
  | [], a, b, h => by
    unfold reach
    rw [show a = b from List.ext_getElem? fun w => h.2 w (fun v hv => by cases hv)]
  | v :: r, a, b, h => by
    unfold reach
    congr 1
    funext x
    exact reach_same s r _ _ (h.set x)

/-- A value is part of values of which the constraint holds. -/
def Part (c : MCon) (s : Sto) (k : Nat) (z : Int) : Prop := ∃ u : List Int, u.length = s.length ∧ (∀ v ∈ scopeC c, valAt u v ∈ s.getD v.toNat []) ∧ holdsC c u = true ∧ valAt u (k : Int) = z

theorem mem_metK (c : MCon) (scope : List Int) (us : List (List Int)) (k z : Int) : (k, z) ∈ metK c scope us ↔ ∃ u ∈ us, holdsC c u = true ∧ k ∈ scope ∧ valAt u k = z := by
  unfold metK
  rw [List.mem_flatMap]
  constructor
  · rintro ⟨u, hu, h⟩
    cases hh : holdsC c u
    · rw [hh] at h; simp at h
    · rw [hh, if_pos rfl] at h
      obtain ⟨v, hv, he⟩ := List.mem_map.1 h
      cases he
      exact ⟨u, hu, hh, hv, rfl⟩
  · rintro ⟨u, hu, hh, hv, rfl⟩
    exact ⟨u, hu, by rw [hh, if_pos rfl]; exact List.mem_map.2 ⟨k, hv, rfl⟩⟩

theorem getElem_zeros (n w : Nat) (h : w < n) : (zerosOf n)[w]? = some 0 := by simp [zerosOf, h]
theorem met_iff (c : MCon) (s : Sto) (hsc : ∀ v ∈ scopeC c, 0 ≤ v ∧ v < s.length) (hl : c.kind = 10 → c.lits ≠ []) (k : Nat) (z : Int) (hk : (k : Int) ∈ scopeC c) :
    (metAll c s).contains ((k : Int), z) = true ↔ Part c s k z := by
  rw [List.contains_iff_mem]
  unfold metAll
  rw [mem_metK]
  have hb : ∀ v ∈ scopeC c, v.toNat < (zerosOf s.length).length := fun v hv => by
    have := hsc v hv
    simp only [zerosOf, List.length_replicate]
    omega
  constructor
  · rintro ⟨u, hu, hh, _, hz⟩
    refine ⟨u, by rw [reach_len s _ _ u hu]; simp [zerosOf], fun v hv => ?_, hh, hz⟩
    obtain ⟨v', _, he, hm⟩ := reach_in s _ _ u hb hu v hv
    rw [← he]; exact hm
  · rintro ⟨u, hul, hu, hh, hz⟩
    let u' : List Int := (List.range s.length).map fun (i : Nat) => if (i : Int) ∈ scopeC c then valAt u (i : Int) else 0
    have hu'l : u'.length = s.length := by simp [u']
    have hval : ∀ v ∈ scopeC c, valAt u' v = valAt u v := fun v hv => by
      obtain ⟨h0, h1⟩ := hsc v hv
      obtain ⟨i, rfl⟩ : ∃ i : Nat, v = (i : Int) := ⟨v.toNat, by omega⟩
      have hi : i < s.length := by omega
      unfold valAt
      rw [List.getD_eq_getElem?_getD]
      simp only [u', Int.toNat_natCast, List.getElem?_map, List.getElem?_range hi, Option.map_some, Option.getD_some, if_pos hv]
      rfl
    refine ⟨u', reach_hits s _ _ u' hb (by rw [hu'l]; simp [zerosOf]) (fun v hv => by rw [hval v hv]; exact hu v hv) (fun w hw => ?_), ?_, hk, by rw [hval _ hk]; exact hz⟩
    · by_cases hws : w < s.length
      · rw [getElem_zeros _ _ hws]
        simp only [u', List.getElem?_map, List.getElem?_range hws, Option.map_some]
        rw [if_neg (fun h => hw _ h (by simp))]
      · rw [List.getElem?_eq_none (by omega), List.getElem?_eq_none (by simp [zerosOf]; omega)]
    · rw [holds_scope c u' u hval hl]; exact hh

theorem stays_in (c : MCon) (s : Sto) (hf : failedS s = false) (k : Nat) (z : Int) (hk : (k : Int) ∈ scopeC c) : staysB c s k z = (metAll c s).contains ((k : Int), z) := by
  have hn : (scopeC c).length ≠ 0 := fun h => by rw [List.eq_nil_of_length_eq_zero h] at hk; cases hk
  unfold staysB
  rw [hf, if_neg (by simp), if_neg hn, if_pos ((hasB_iff _ _).2 hk)]
theorem stays_out (c : MCon) (s : Sto) (hn : (scopeC c).length ≠ 0) (k : Nat) (z : Int) (hk : (k : Int) ∉ scopeC c) : staysB c s k z = true := by
  unfold staysB
  cases failedS s
  · rw [if_neg (by simp), if_neg hn, if_neg (fun h => hk ((hasB_iff _ _).1 h))]
  · rfl
theorem stays_none (c : MCon) (s : Sto) (hf : failedS s = false) (hn : (scopeC c).length = 0) (k : Nat) (z : Int) : staysB c s k z = holdsC c (zerosOf s.length) := by
  unfold staysB
  rw [hf, if_neg (by simp), if_pos hn]
theorem stays_failed (c : MCon) (s : Sto) (hf : failedS s = true) (k : Nat) (z : Int) : staysB c s k z = true := by
  unfold staysB; rw [hf, if_pos rfl]
theorem filter_failed (c : MCon) (s : Sto) (hf : failedS s = true) : filterS c s = s := by
  unfold filterS
  refine sto_ext _ _ (siftS_len _ _) fun k r q hr hq => ?_
  obtain ⟨a, ha, rfl⟩ := siftS_back _ _ _ _ hr
  rw [hq] at ha; cases ha
  exact List.filter_eq_self.2 fun z _ => stays_failed c s hf k z
theorem getD_row (s : Sto) (k : Nat) (r : List Int) (h : s[k]? = some r) : s.getD k [] = r := by rw [List.getD_eq_getElem?_getD, h]; rfl

/-- NO VALUES ARE LOST. -/
theorem filter_keeps (c : MCon) (s : Sto) (hsc : ∀ v ∈ scopeC c, 0 ≤ v ∧ v < s.length) (hl : c.kind = 10 → c.lits ≠ []) (vals : List Int) (hv : vals.length = s.length)
    (hin : ∀ (k : Nat) r x, s[k]? = some r → vals[k]? = some x → x ∈ r) (hh : holdsC c vals = true) (k : Nat) (r : List Int) (x : Int) (hr : (filterS c s)[k]? = some r) (hx : vals[k]? = some x) : x ∈ r := by
  obtain ⟨a, ha, rfl⟩ := siftS_back _ _ _ _ hr
  refine List.mem_filter.2 ⟨hin k a x ha hx, ?_⟩
  cases hf : failedS s
  · by_cases hn : (scopeC c).length = 0
    · rw [stays_none c s hf hn, holds_scope c (zerosOf s.length) vals (fun v hv => by rw [List.eq_nil_of_length_eq_zero hn] at hv; cases hv) hl]
      exact hh
    · by_cases hk : (k : Int) ∈ scopeC c
      · rw [stays_in c s hf k x hk, met_iff c s hsc hl k x hk]
        refine ⟨vals, hv, fun v hvs => ?_, hh, valAt_get vals k x hx⟩
        obtain ⟨h0, h1⟩ := hsc v hvs
        obtain ⟨i, rfl⟩ : ∃ i : Nat, v = (i : Int) := ⟨v.toNat, by omega⟩
        have hi : i < s.length := by omega
        have e1 : s[i]? = some s[i] := by simp [hi]
        have e2 : vals[i]? = some (vals[i]'(by omega)) := by simp [show i < vals.length by omega]
        rw [Int.toNat_natCast, getD_row s i _ e1, valAt_get vals i _ e2]
        exact hin i _ _ e1 e2
      · exact stays_out c s hn k x hk
  · exact stays_failed c s hf k x

theorem failed_iff (s : Sto) : failedS s = true ↔ ∃ k : Nat, s[k]? = some [] := by
  unfold failedS
  rw [List.any_eq_true]
  constructor
  · rintro ⟨r, hr, h⟩
    obtain ⟨k, hk⟩ := List.mem_iff_getElem?.1 hr
    have : r = [] := List.eq_nil_of_length_eq_zero (by simpa using h)
    exact ⟨k, by rw [hk, this]⟩
  · rintro ⟨k, hk⟩
    exact ⟨[], List.mem_of_getElem? hk, rfl⟩

/-- FILTERED TWICE IT IS FILTERED ONCE. -/
theorem filter_twice (c : MCon) (s : Sto) (hsc : ∀ v ∈ scopeC c, 0 ≤ v ∧ v < s.length) (hl : c.kind = 10 → c.lits ≠ []) : filterS c (filterS c s) = filterS c s := by
  cases hf : failedS s
  · cases hf2 : failedS (filterS c s)
    · have hlen : (filterS c s).length = s.length := siftS_len _ _
      refine sto_ext _ _ (siftS_len _ _) fun k r q hr hq => ?_
      obtain ⟨a, ha, rfl⟩ := siftS_back _ _ _ _ hr
      rw [hq] at ha; cases ha
      refine List.filter_eq_self.2 fun z hz => ?_
      obtain ⟨b, hb, rfl⟩ := siftS_back _ _ _ _ hq
      obtain ⟨hz1, hz2⟩ := List.mem_filter.1 hz
      by_cases hn : (scopeC c).length = 0
      · rw [stays_none c _ hf2 hn, hlen]
        rw [stays_none c s hf hn] at hz2
        exact hz2
      · by_cases hk : (k : Int) ∈ scopeC c
        · rw [stays_in c s hf k z hk, met_iff c s hsc hl k z hk] at hz2
          rw [stays_in c _ hf2 k z hk, met_iff c _ (by rw [hlen]; exact hsc) hl k z hk]
          obtain ⟨u, hul, hu, hh, huz⟩ := hz2
          refine ⟨u, by rw [hlen]; exact hul, fun v hv => ?_, hh, huz⟩
          obtain ⟨h0, h1⟩ := hsc v hv
          obtain ⟨i, rfl⟩ : ∃ i : Nat, v = (i : Int) := ⟨v.toNat, by omega⟩
          have hi : i < s.length := by omega
          have e1 : s[i]? = some s[i] := by simp [hi]
          have := hu _ hv
          rw [Int.toNat_natCast] at this ⊢
          rw [getD_row s i _ e1] at this
          show _ ∈ (siftS s (staysB c s)).getD i []
          rw [getD_row _ i _ (siftS_get s (staysB c s) i _ e1)]
          refine List.mem_filter.2 ⟨this, ?_⟩
          rw [stays_in c s hf i _ hv, met_iff c s hsc hl i _ hv]
          exact ⟨u, hul, hu, hh, rfl⟩
        · exact stays_out c _ hn k z hk
    · exact filter_failed c _ hf2
  · rw [filter_failed c s hf, filter_failed c s hf]

/-- WHAT IS FILTERED OF LESS IS LESS. -/
theorem filter_less (c : MCon) (s t : Sto) (hlen : t.length = s.length) (hsc : ∀ v ∈ scopeC c, 0 ≤ v ∧ v < s.length) (hl : c.kind = 10 → c.lits ≠ []) (hft : failedS t = false) (hfs : failedS s = false)
    (hw : withinS t s = true) : withinS (filterS c t) (filterS c s) = true := by
  unfold withinS at *
  rw [all_zip] at *
  have hsub : ∀ (i : Nat) r q, t[i]? = some r → s[i]? = some q → ∀ n ∈ r, n ∈ q := fun i r q hr hq => (withinR_iff r q).1 (hw i r q hr hq)
  intro k r q hr hq
  obtain ⟨a, ha, rfl⟩ := siftS_back _ _ _ _ hr
  obtain ⟨b, hb, rfl⟩ := siftS_back _ _ _ _ hq
  refine (withinR_iff _ _).2 fun z hz => ?_
  obtain ⟨hz1, hz2⟩ := List.mem_filter.1 hz
  refine List.mem_filter.2 ⟨hsub k a b ha hb z hz1, ?_⟩
  by_cases hn : (scopeC c).length = 0
  · rw [stays_none c s hfs hn]
    rw [stays_none c t hft hn, hlen] at hz2
    exact hz2
  · by_cases hk : (k : Int) ∈ scopeC c
    · rw [stays_in c t hft k z hk, met_iff c t (by rw [hlen]; exact hsc) hl k z hk] at hz2
      rw [stays_in c s hfs k z hk, met_iff c s hsc hl k z hk]
      obtain ⟨u, hul, hu, hh, huz⟩ := hz2
      refine ⟨u, by rw [hul, hlen], fun v hv => ?_, hh, huz⟩
      obtain ⟨h0, h1⟩ := hsc v hv
      obtain ⟨i, rfl⟩ : ∃ i : Nat, v = (i : Int) := ⟨v.toNat, by omega⟩
      have hi : i < s.length := by omega
      have e1 : s[i]? = some s[i] := by simp [hi]
      have e2 : t[i]? = some (t[i]'(by omega)) := by simp [show i < t.length by omega]
      have := hu _ hv
      rw [Int.toNat_natCast] at this ⊢
      rw [getD_row s i _ e1]
      rw [getD_row t i _ e2] at this
      exact hsub i _ _ e2 e1 _ this
    · exact stays_out c s hn k z hk
/-- What a right model's constraints have. -/
theorem scope_in (m : Mod) (hm : checkM m = 0) (j : Nat) (c : MCon) (hc : m.cons[j]? = some c) : (∀ v ∈ scopeC c, 0 ≤ v ∧ v < (m.vars.length : Int)) ∧ (c.kind = 10 → c.lits ≠ []) := by
  obtain ⟨_, _, hform, hvars, _, _⟩ := con_facts _ _ (con_ok m hm j c hc)
  obtain ⟨h1, h2⟩ := vars_in c _ hvars
  refine ⟨fun v hv => ?_, fun hk => ?_⟩
  · rw [mem_scope] at hv
    unfold scopeL at hv
    rcases List.mem_append.1 hv with h | h
    · exact h1 v h
    · obtain ⟨l, hl, rfl⟩ := List.mem_map.1 h
      exact h2 l hl
  · intro h
    unfold formB at hform
    rw [hk, h] at hform
    simp at hform
end Go.Proofs.YtijohkhpigjbkaeGreatDoor
/-
  PLAIN: the steps of constraints and of clauses; what all together leave.
-/
namespace Go.Proofs.YtijohkhpigjbkaeGreatDoor

def filtS (n : Nat) (c : MCon) (s : Sto) : Sto := if s.length = n then filterS c s else s
theorem filt_eq (n : Nat) (c : MCon) (s : Sto) (h : s.length = n) : filtS n c s = filterS c s := by unfold filtS; rw [if_pos h]
theorem filt_step (n : Nat) (c : MCon) (hsc : ∀ v ∈ scopeC c, 0 ≤ v ∧ v < (n : Int)) (hl : c.kind = 10 → c.lits ≠ []) : StepOk (filtS n c) where
  dec s := by
    unfold filtS
    split
    · exact sub_sift _ _
    · exact SubS.refl _
  row s := by
    unfold filtS
    split
    · exact row_sift _ _
    · exact RowSub.refl _
  mono s t h ht hs := by
    unfold filtS
    by_cases hn : s.length = n
    · have hm : t.length = n := h.1.trans hn
      rw [if_pos hn, if_pos hm]
      refine within_sub (by unfold filterS; rw [siftS_len, siftS_len]; exact h.1) ?_
      exact filter_less c s t h.1 (by rw [hn]; exact hsc) hl ht hs (sub_within h)
    · have hm : t.length ≠ n := fun e => hn (h.1.symm.trans e)
      rw [if_neg hn, if_neg hm]
      exact h
  stay s h := by
    unfold filtS
    split
    · exact filter_failed c s h
    · rfl
def conSteps (m : Mod) : List (Sto → Sto) := m.cons.map fun c => filtS m.vars.length c
def claSteps (l : List Cla) : List (Sto → Sto) := l.map fun c => fun s => unitS s c
def bothSteps (m : Mod) (l : List Cla) : List (Sto → Sto) := claSteps l ++ conSteps m
theorem con_steps (m : Mod) (hm : checkM m = 0) : ∀ f ∈ conSteps m, StepOk f := by
  intro f hf
  obtain ⟨c, hc, rfl⟩ := List.mem_map.1 hf
  obtain ⟨j, hj⟩ := List.mem_iff_getElem?.1 hc
  obtain ⟨h1, h2⟩ := scope_in m hm j c hj
  exact filt_step _ c h1 h2
theorem cla_steps (l : List Cla) : ∀ f ∈ claSteps l, StepOk f := by
  intro f hf
  obtain ⟨c, _, rfl⟩ := List.mem_map.1 hf
  exact unit_step c
theorem both_steps (m : Mod) (l : List Cla) (hm : checkM m = 0) : ∀ f ∈ bothSteps m l, StepOk f := by
  intro f hf
  rcases List.mem_append.1 hf with h | h
  · exact cla_steps l f h
  · exact con_steps m hm f h
theorem checkV_filt (vs : List MVar) (n : Nat) (c : MCon) (s : Sto) (h : checkV vs s = 0) : checkV vs (filtS n c s) = 0 := by
  unfold filtS
  split
  · exact checkV_sift _ _ _ h
  · exact h
theorem con_right (m : Mod) : ∀ f ∈ conSteps m, ∀ u, checkV m.vars u = 0 → checkV m.vars (f u) = 0 := by
  intro f hf u hu
  obtain ⟨c, _, rfl⟩ := List.mem_map.1 hf
  exact checkV_filt _ _ c u hu
theorem cla_right (vs : List MVar) (l : List Cla) : ∀ f ∈ claSteps l, ∀ u, checkV vs u = 0 → checkV vs (f u) = 0 := by
  intro f hf u hu
  obtain ⟨c, _, rfl⟩ := List.mem_map.1 hf
  exact checkV_unit vs u c hu
theorem both_right (m : Mod) (l : List Cla) : ∀ f ∈ bothSteps m l, ∀ u, checkV m.vars u = 0 → checkV m.vars (f u) = 0 := by
  intro f hf
  rcases List.mem_append.1 hf with h | h
  · exact cla_right _ l f h
  · exact con_right m f h
/-- What a call of package fix answers: an error, or the greatest store. -/
def FixR (chk : Int) (fs : List (Sto → Sto)) (vs : List MVar) (s t : Sto) (er : Int) : Prop :=
  (chk ≠ 0 → er = chk ∧ t = []) ∧ (chk = 0 → er = 0 ∧ Greatest fs s t ∧ checkV vs t = 0)
def bothE (m : Mod) (s : Sto) (l : List Cla) : Int := if checkL m [s] = 0 then clasE m.vars l else checkL m [s]
theorem bothE_ok (m : Mod) (s : Sto) (l : List Cla) (h : bothE m s l = 0) : checkL m [s] = 0 ∧ clasE m.vars l = 0 := by
  unfold bothE at h
  split at h
  · rename_i h0; exact ⟨h0, h⟩
  · contradiction
theorem claE_ok (vs : List MVar) (c : Cla) (h : claE vs c = 0) : c.length ≤ 40 ∧ ∀ l ∈ c, litE vs l = 0 := by
  unfold claE at h
  split at h
  · cases h
  · refine ⟨by omega, fun l hl => firstE_all _ h _ (List.mem_map.2 ⟨l, hl, rfl⟩)⟩
theorem clasE_ok (vs : List MVar) (l : List Cla) (h : clasE vs l = 0) : l.length ≤ 600 ∧ ∀ c ∈ l, claE vs c = 0 := by
  unfold clasE at h
  split at h
  · cases h
  · refine ⟨by omega, fun c hc => firstE_all _ h _ (List.mem_map.2 ⟨c, hc, rfl⟩)⟩
theorem claIn_of (vs : List MVar) (s : Sto) (c : Cla) (hs : s.length = vs.length) (h : claE vs c = 0) : ClaIn s c := by
  intro l hl
  have := ((litE_ok vs l).1 ((claE_ok vs c h).2 l hl)).1
  rw [hs]; exact this
/-- NO VALUES OF WHICH ALL OF IT HOLDS ARE LOST. -/
theorem both_keeps (m : Mod) (l : List Cla) (s t : Sto) (hm : checkM m = 0) (hs : checkV m.vars s = 0) (hl : clasE m.vars l = 0) (h : Greatest (bothSteps m l) s t) (vals : List Int) (hv : hasS s vals = true)
    (h1 : ∀ c ∈ m.cons, holdsC c vals = true) (h2 : ∀ c ∈ l, claB c vals = true) : hasS t vals = true := by
  have hlen := ((checkV_ok _ _).1 hs).1
  refine great_keeps h vals hv fun f hf u hu huv => ?_
  rcases List.mem_append.1 hf with hf | hf
  · obtain ⟨c, hc, rfl⟩ := List.mem_map.1 hf
    exact unit_keeps u c (claIn_of m.vars u c (by rw [hu, hlen]) ((clasE_ok _ _ hl).2 c hc)) vals huv (h2 c hc)
  · obtain ⟨c, hc, rfl⟩ := List.mem_map.1 hf
    obtain ⟨j, hj⟩ := List.mem_iff_getElem?.1 hc
    obtain ⟨k1, k2⟩ := scope_in m hm j c hj
    have hul : u.length = m.vars.length := by rw [hu, hlen]
    rw [filt_eq _ c u hul]
    rw [hasS_iff] at huv ⊢
    refine ⟨by rw [← huv.1]; exact siftS_len _ _, fun k r x hr hx => ?_⟩
    exact filter_keeps c u (by rw [hul]; exact k1) k2 vals huv.1.symm huv.2 (h1 c hc) k r x hr hx
end Go.Proofs.YtijohkhpigjbkaeGreatDoor
/-
  PLAIN: what a constraint, or clauses, say by themselves; steps of proofs; that they are sound.
-/
namespace Go.Proofs.YtijohkhpigjbkaeGreatDoor

theorem mem_span (lo hi x : Int) (h1 : lo ≤ x) (h2 : x ≤ hi) : x ∈ spanR lo hi := by
  unfold spanR
  rw [List.mem_map]
  exact ⟨(x - lo).toNat, List.mem_range.2 (by omega), by omega⟩
theorem begin_len (vs : List MVar) : (beginS vs).length = vs.length := by simp [beginS]
/-- Values that may be are had by the store that begins. -/
theorem begin_has (vs : List MVar) (vals : List Int) (hl : vals.length = vs.length) (h : (vs.zip vals).all (fun p => insideV p.1 p.2) = true) : hasS (beginS vs) vals = true := by
  rw [all_zip] at h
  rw [hasS_iff, begin_len]
  refine ⟨hl.symm, fun k r x hr hx => ?_⟩
  unfold beginS at hr
  rw [List.getElem?_map] at hr
  obtain ⟨v, hv, rfl⟩ := Option.map_eq_some_iff.1 hr
  have := h k v x hv hx
  unfold insideV at this
  simp only [Bool.and_eq_true, Bool.not_eq_true', decide_eq_false_iff_not] at this
  exact mem_span _ _ _ (by omega) (by omega)
theorem allA_parts (m : Mod) (vals : List Int) (h : allA m vals = (true, 0)) : checkM m = 0 ∧ hasS (beginS m.vars) vals = true ∧ ∀ c ∈ m.cons, holdsC c vals = true := by
  unfold allA at h
  split at h
  · rename_i h0
    split at h
    · rename_i hl
      have h1 := congrArg Prod.fst h
      simp only [Bool.and_eq_true] at h1
      exact ⟨h0, begin_has m.vars vals hl h1.1, List.all_eq_true.1 h1.2⟩
    · cases h
  · cases h
theorem begin_in (m : Mod) (c : Cla) (hc : claE m.vars c = 0) : ClaIn (beginS m.vars) c := claIn_of m.vars _ c (begin_len _) hc
theorem begin_rises (lo hi : Int) : risesB (spanR lo hi) = true := by
  rw [rises_pair]
  unfold spanR
  rw [List.pairwise_map]
  exact List.pairwise_lt_range.imp fun h => by omega
theorem begin_right (vs : List MVar) : checkV vs (beginS vs) = 0 := by
  rw [checkV_ok]
  refine ⟨begin_len vs, ?_, ?_⟩
  · unfold rangeS
    rw [all_zip]
    intro i v r hv hr
    unfold beginS at hr
    rw [List.getElem?_map, hv] at hr
    cases hr
    rw [List.all_eq_true]
    intro x hx
    unfold spanR at hx
    obtain ⟨k, hk, rfl⟩ := List.mem_map.1 hx
    have := List.mem_range.1 hk
    simp [insideB]
    omega
  · rw [List.all_eq_true]
    intro r hr
    unfold beginS at hr
    obtain ⟨v, _, rfl⟩ := List.mem_map.1 hr
    exact begin_rises _ _

/-- Does a constraint by itself say so? -/
def ConSays (m : Mod) (k : MCon) (c : Cla) : Prop := failedS (denyS (beginS m.vars) c) = true ∨ failedS (filterS k (denyS (beginS m.vars) c)) = true
/-- Do clauses? -/
def UnitSays (m : Mod) (l : List Cla) (c : Cla) : Prop := failedS (denyS (beginS m.vars) c) = true ∨ ∃ t, Greatest (claSteps l) (denyS (beginS m.vars) c) t ∧ failedS t = true

theorem con_sound (m : Mod) (hm : checkM m = 0) (j : Nat) (k : MCon) (hk : m.cons[j]? = some k) (c : Cla) (hc : claE m.vars c = 0) (vals : List Int) (hv : hasS (beginS m.vars) vals = true) (hh : holdsC k vals = true)
    (hs : ConSays m k c) : claB c vals = true := by
  cases hb : claB c vals
  · have hd : hasS (denyS (beginS m.vars) c) vals = true := by rw [deny_has _ _ (begin_in m c hc) _ hv, hb]; rfl
    rcases hs with h | h
    · rw [has_not_failed _ _ hd] at h; cases h
    · obtain ⟨k1, k2⟩ := scope_in m hm j k hk
      have hl : (denyS (beginS m.vars) c).length = m.vars.length := by unfold denyS; rw [siftS_len, begin_len]
      have hd2 := (hasS_iff _ _).1 hd
      have hf : hasS (filterS k (denyS (beginS m.vars) c)) vals = true := by
        rw [hasS_iff]
        refine ⟨by rw [← hd2.1]; exact siftS_len _ _, fun i r x hr hx => ?_⟩
        exact filter_keeps k _ (by rw [hl]; exact k1) k2 vals hd2.1.symm hd2.2 hh i r x hr hx
      rw [has_not_failed _ _ hf] at h; cases h
  · rfl
theorem unit_sound (m : Mod) (l : List Cla) (hl : ∀ d ∈ l, claE m.vars d = 0) (c : Cla) (hc : claE m.vars c = 0) (vals : List Int) (hv : hasS (beginS m.vars) vals = true) (hh : ∀ d ∈ l, claB d vals = true)
    (hs : UnitSays m l c) : claB c vals = true := by
  cases hb : claB c vals
  · have hd : hasS (denyS (beginS m.vars) c) vals = true := by rw [deny_has _ _ (begin_in m c hc) _ hv, hb]; rfl
    rcases hs with h | ⟨t, hg, h⟩
    · rw [has_not_failed _ _ hd] at h; cases h
    · have hlen : (denyS (beginS m.vars) c).length = m.vars.length := by unfold denyS; rw [siftS_len, begin_len]
      have ht : hasS t vals = true := by
        refine great_keeps hg vals hd fun f hf u hu huv => ?_
        obtain ⟨d, hd2, rfl⟩ := List.mem_map.1 hf
        exact unit_keeps u d (claIn_of m.vars u d (by rw [hu, hlen]) (hl d hd2)) vals huv (hh d hd2)
      rw [has_not_failed _ _ ht] at h; cases h
  · rfl

/-- A step of a proof. -/
structure MStep where
  kind : Int
  con : Int
  cla : Cla
/-- All steps are right, behind clauses. -/
def StepsOk (m : Mod) : List Cla → List MStep → Prop
  | _, [] => True
  | l, s :: r => ((s.kind = 1 ∧ ∃ (j : Nat) (k : MCon), s.con = (j : Int) ∧ m.cons[j]? = some k ∧ ConSays m k s.cla) ∨ (s.kind = 2 ∧ UnitSays m l s.cla)) ∧ StepsOk m (l ++ [s.cla]) r
theorem steps_sound (m : Mod) (hm : checkM m = 0) (vals : List Int) (hv : hasS (beginS m.vars) vals = true) (hc : ∀ c ∈ m.cons, holdsC c vals = true) : ∀ (r : List MStep) (l : List Cla), (∀ d ∈ l, claE m.vars d = 0) → (∀ s ∈ r, claE m.vars s.cla = 0) →
    (∀ d ∈ l, claB d vals = true) → StepsOk m l r → ∀ s ∈ r, claB s.cla vals = true
  | [], _, _, _, _, _ => fun s hs => by cases hs
  | s :: r, l, hl, hr, hh, ⟨h1, h2⟩ => by
    have hs : claB s.cla vals = true := by
      rcases h1 with ⟨_, j, k, _, hk, hs⟩ | ⟨_, hs⟩
      · exact con_sound m hm j k hk s.cla (hr s (List.mem_cons_self ..)) vals hv (hc k (List.mem_of_getElem? hk)) hs
      · exact unit_sound m l hl s.cla (hr s (List.mem_cons_self ..)) vals hv hh hs
    have ih := steps_sound m hm vals hv hc r (l ++ [s.cla])
      (fun d hd => by rcases List.mem_append.1 hd with h | h; exact hl d h; rw [List.mem_singleton.1 h]; exact hr s (List.mem_cons_self ..))
      (fun t ht => hr t (List.mem_cons_of_mem _ ht))
      (fun d hd => by rcases List.mem_append.1 hd with h | h; exact hh d h; rw [List.mem_singleton.1 h]; exact hs) h2
    intro t ht
    rcases List.mem_cons.1 ht with rfl | ht
    · exact hs
    · exact ih t ht
/-- WHERE THERE IS A PROOF, NO VALUES ARE SUCH. -/
theorem proof_sound (m : Mod) (given : List Cla) (r : List MStep) (vals : List Int) (ha : allA m vals = (true, 0)) (hg : ∀ d ∈ given, claE m.vars d = 0) (hr : ∀ s ∈ r, claE m.vars s.cla = 0) (hh : ∀ d ∈ given, claB d vals = true)
    (hs : StepsOk m given r) (s : MStep) (hl : s ∈ r) (he : s.cla = []) : False := by
  obtain ⟨h0, h1, h2⟩ := allA_parts m vals ha
  have := steps_sound m h0 vals h1 h2 r given hg hr hh hs s hl
  rw [he] at this
  cases this
end Go.Proofs.YtijohkhpigjbkaeGreatDoor
/-
  PLAIN: values of variables as bits of one number: what a constraint, or clauses, say; steps of proofs; that they are sound.
-/
namespace Go.Proofs.YtijohkhpigjbkaeGreatDoor

/-- What is of a and not of b. -/
def lessN (a b : Nat) : Nat := a ^^^ (a &&& b)
theorem testBit_less (a b i : Nat) : (lessN a b).testBit i = (a.testBit i && !b.testBit i) := by
  unfold lessN
  rw [Nat.testBit_xor, Nat.testBit_and]
  cases a.testBit i <;> cases b.testBit i <;> rfl
theorem less_lt (n a b : Nat) (h : a < 2 ^ n) : lessN a b < 2 ^ n := Nat.xor_lt_two_pow h (Nat.lt_of_le_of_lt Nat.and_le_left h)
theorem less_le (a b : Nat) : lessN a b ≤ a := by
  apply Nat.le_of_testBit
  intro i h
  rw [testBit_less] at h
  simp at h
  exact h.1
theorem bits_andNot_u64 (a b : Nat) (ha : a < 18446744073709551616) (hb : b < 18446744073709551616) : bits .andNot .u64 (a : Int) (b : Int) = ((lessN a b : Nat) : Int) := by
  have h1 : (BitVec.ofInt 64 (a : Int)).toNat = a := by rw [BitVec.ofInt_natCast, BitVec.toNat_ofNat]; exact Nat.mod_eq_of_lt (by omega)
  have h2 : (BitVec.ofInt 64 (b : Int)).toNat = b := by rw [BitVec.ofInt_natCast, BitVec.toNat_ofNat]; exact Nat.mod_eq_of_lt (by omega)
  have key : (BitVec.ofInt 64 (a : Int) &&& ~~~BitVec.ofInt 64 (b : Int)).toNat = lessN a b := by
    apply Nat.eq_of_testBit_eq
    intro i
    rw [testBit_less, BitVec.toNat_and, Nat.testBit_and, h1, BitVec.testBit_toNat, BitVec.getLsbD_not, ← BitVec.testBit_toNat, h2]
    by_cases hi : i < 64
    · simp [hi]
    · have : a.testBit i = false := Nat.testBit_lt_two_pow (Nat.lt_of_lt_of_le ha (by
        have := Nat.pow_le_pow_right (n := 2) (by omega) (show 64 ≤ i by omega)
        simpa using this))
      simp [this]
  show IntKind.u64.wrap ((BitVec.ofInt 64 (a : Int) &&& ~~~BitVec.ofInt 64 (b : Int)).toNat : Int) = _
  rw [key, IntKind.wrap_u64]
  have := less_lt 64 a b (by simpa using ha)
  omega

/-- The bits of some values of a variable, from a place on. -/
def rowP (f : Int → Bool) (b : Nat) (lo : Int) : Nat → Nat
  | 0 => 0
  | k + 1 => if f (lo + (k : Int)) then rowP f b lo k ||| 2 ^ (b + k) else rowP f b lo k
theorem testBit_pow (n i : Nat) : (2 ^ n).testBit i = decide (n = i) := by rw [Nat.testBit_two_pow]
theorem testBit_row (f : Int → Bool) (b : Nat) (lo : Int) : ∀ (k i : Nat), (rowP f b lo k).testBit i = (decide (b ≤ i) && (decide (i < b + k) && f (lo + ((i - b : Nat) : Int))))
  | 0, i => by
    simp only [rowP, Nat.zero_testBit, Nat.add_zero]
    by_cases h : b ≤ i
    · simp [h]; omega
    · simp [h]
  | k + 1, i => by
    unfold rowP
    by_cases hi : i = b + k
    · subst hi
      have e : ((b + k - b : Nat) : Int) = (k : Int) := by omega
      cases hf : f (lo + (k : Int))
      · rw [if_neg (by simp), testBit_row f b lo k]; simp [hf]
      · rw [if_pos rfl, Nat.testBit_or, testBit_pow, testBit_row f b lo k]; simp [hf]
    · have e : decide (i < b + (k + 1)) = decide (i < b + k) := by
        by_cases h : i < b + k
        · simp [h]; omega
        · simp [h]; omega
      rw [e]
      split
      · rw [Nat.testBit_or, testBit_pow, testBit_row f b lo k, show decide (b + k = i) = false by simp; omega, Bool.or_false]
      · exact testBit_row f b lo k i
/-- The six bits of the first variable that has some. -/
def fieldP (p : Nat) : Nat := 63 * 2 ^ (6 * (Lib.ctz 64 p / 6))
theorem testBit_63 (i : Nat) : Nat.testBit 63 i = decide (i < 6) := by
  rw [show (63 : Nat) = 2 ^ 6 - 1 from rfl, Nat.testBit_two_pow_sub_one]
theorem testBit_six (v i : Nat) : (63 * 2 ^ (6 * v)).testBit i = decide (i / 6 = v) := by
  rw [Nat.mul_comm, Nat.testBit_two_pow_mul, testBit_63]
  by_cases h : i / 6 = v
  · subst h; simp; omega
  · simp [h]; omega

def noVar : MVar := ⟨ByteArray.empty, 0, 0⟩
def sizeV (v : MVar) : Nat := (v.hi + 1 - v.lo).toNat
def varAt (vs : List MVar) (v : Nat) : MVar := vs.getD v noVar
/-- The bits of values of the first variables. -/
def ofN (vs : List MVar) (f : Nat → Int → Bool) : Nat → Nat
  | 0 => 0
  | v + 1 => ofN vs f v ||| rowP (f v) (6 * v) (varAt vs v).lo (sizeV (varAt vs v))
def ofP (vs : List MVar) (f : Nat → Int → Bool) : Nat := ofN vs f vs.length
def wholeP (vs : List MVar) : Nat := ofP vs fun _ _ => true
def storedP (vs : List MVar) (s : Sto) : Nat := ofP vs fun v x => hasB (s.getD v []) x
def heldP (vs : List MVar) (c : Cla) : Nat := ofP vs fun v x => oneB c v x
/-- As variables must be. -/
def VarsOk (vs : List MVar) : Prop := vs.length ≤ 6 ∧ ∀ v : Nat, sizeV (varAt vs v) ≤ 6
theorem testBit_of (vs : List MVar) (hv : VarsOk vs) (f : Nat → Int → Bool) : ∀ (n i : Nat), (ofN vs f n).testBit i = (decide (i / 6 < n) && (decide (i % 6 < sizeV (varAt vs (i / 6))) && f (i / 6) ((varAt vs (i / 6)).lo + ((i % 6 : Nat) : Int))))
  | 0, i => by simp [ofN]
  | v + 1, i => by
    have h6 := hv.2 v
    unfold ofN
    rw [Nat.testBit_or, testBit_of vs hv f v i, testBit_row]
    by_cases hi : i / 6 = v
    · subst hi
      have e1 : i - 6 * (i / 6) = i % 6 := by omega
      have e2 : decide (i < 6 * (i / 6) + sizeV (varAt vs (i / 6))) = decide (i % 6 < sizeV (varAt vs (i / 6))) := by
        by_cases h : i % 6 < sizeV (varAt vs (i / 6))
        · simp [h]; omega
        · simp [h]; omega
      rw [e1, e2, show decide (6 * (i / 6) ≤ i) = true by simp; omega]
      simp
    · have e1 : decide (i / 6 < v + 1) = decide (i / 6 < v) := by
        by_cases h : i / 6 < v
        · simp [h]; omega
        · simp [h]; omega
      have e2 : (decide (6 * v ≤ i) && (decide (i < 6 * v + sizeV (varAt vs v)) && f v ((varAt vs v).lo + ((i - 6 * v : Nat) : Int)))) = false := by
        by_cases h : 6 * v ≤ i
        · have : ¬ (i < 6 * v + sizeV (varAt vs v)) := by omega
          simp [this]
        · simp [h]
      rw [e1, e2, Bool.or_false]
theorem ofN_lt (vs : List MVar) (hv : VarsOk vs) (f : Nat → Int → Bool) (n : Nat) (hn : n ≤ 6) : ofN vs f n < 2 ^ 36 := by
  apply Nat.lt_pow_two_of_testBit
  intro i hi
  rw [testBit_of vs hv]
  have : ¬ (i / 6 < n) := by omega
  simp [this]
theorem of_lt (vs : List MVar) (hv : VarsOk vs) (f : Nat → Int → Bool) : ofP vs f < 2 ^ 36 := ofN_lt vs hv f _ hv.1

def lackP (n p : Nat) : Bool := (List.range n).any fun v => p / 2 ^ (v * 6) &&& 63 == 0
def stayP (h p : Nat) : Bool := p &&& h == 0
def saysP (vs : List MVar) (pts : List Nat) (h : Nat) : Bool := lackP vs.length (lessN (wholeP vs) h) || !pts.any (stayP h)
/-- A constraint's points, from a place of its scope on. -/
def pointsN (vs : List MVar) (c : MCon) : List Int → List Int → Nat → List Nat
  | [], vals, a => if holdsC c vals then [a] else []
  | v :: r, vals, a => (spanR (varAt vs v.toNat).lo (varAt vs v.toNat).hi).flatMap fun x => pointsN vs c r (vals.set v.toNat x) (a ||| 2 ^ (6 * v.toNat + (x - (varAt vs v.toNat).lo).toNat))
def pointsP (vs : List MVar) (c : MCon) : List Nat := pointsN vs c (scopeC c) (zerosOf vs.length) 0
/-- Once through clauses: none, if one takes all. -/
def roundP : List Nat → Nat → Option Nat
  | [], left => some left
  | c :: r, left =>
    if left &&& c = 0 then none
    else if lessN (left &&& c) (fieldP (left &&& c)) = 0 then roundP r (lessN left (lessN (fieldP (left &&& c)) (left &&& c))) else roundP r left
def unitsN (cs : List Nat) : Nat → Nat → Nat
  | 0, left => left
  | f + 1, left => match roundP cs left with
    | none => 0
    | some l => if l = left then left else unitsN cs f l
/-- What clauses leave of values. -/
def unitsP (vs : List MVar) (cs : List Nat) (p : Nat) : Nat := if lackP vs.length p then 0 else unitsN cs (p + 1) p
def failsP (vs : List MVar) (cs : List Nat) (h : Nat) : Bool := unitsP vs cs (lessN (wholeP vs) h) == 0

theorem round_le : ∀ (cs : List Nat) (left l : Nat), roundP cs left = some l → l ≤ left
  | [], left, l, h => by simp [roundP] at h; omega
  | c :: r, left, l, h => by
    unfold roundP at h
    split at h
    · cases h
    · split at h
      · exact Nat.le_trans (round_le r _ l h) (less_le _ _)
      · exact round_le r _ l h
theorem units_fuel (cs : List Nat) : ∀ (f g left : Nat), left < f → left < g → unitsN cs f left = unitsN cs g left
  | 0, g, left, hf, hg => by omega
  | f + 1, 0, left, hf, hg => by omega
  | f + 1, g + 1, left, hf, hg => by
    unfold unitsN
    cases hr : roundP cs left with
    | none => rfl
    | some l =>
      simp only
      split
      · rfl
      · have := round_le cs left l hr
        exact units_fuel cs f g l (by omega) (by omega)
theorem units_step (cs : List Nat) (left : Nat) : unitsN cs (left + 1) left = match roundP cs left with
    | none => 0
    | some l => if l = left then left else unitsN cs (l + 1) l := by
  conv => lhs; unfold unitsN
  cases hr : roundP cs left with
  | none => rfl
  | some l =>
    simp only
    split
    · rfl
    · have := round_le cs left l hr
      exact units_fuel cs _ _ l (by omega) (by omega)
theorem unitsN_le (cs : List Nat) : ∀ (f left : Nat), unitsN cs f left ≤ left
  | 0, left => Nat.le_refl _
  | f + 1, left => by
    unfold unitsN
    cases hr : roundP cs left with
    | none => simp
    | some l =>
      simp only
      split
      · exact Nat.le_refl _
      · exact Nat.le_trans (unitsN_le cs f l) (round_le cs left l hr)
theorem units_le (vs : List MVar) (cs : List Nat) (p : Nat) : unitsP vs cs p ≤ p := by
  unfold unitsP
  split
  · exact Nat.zero_le _
  · exact unitsN_le cs _ _

/-- Where a value of a variable has its bit. -/
def posV (vs : List MVar) (vals : List Int) (v : Nat) : Nat := 6 * v + (valAt vals (v : Int) - (varAt vs v).lo).toNat
/-- Values that may be. -/
def MayBe (vs : List MVar) (vals : List Int) : Prop := vals.length = vs.length ∧ ∀ v : Nat, v < vs.length → (varAt vs v).lo ≤ valAt vals (v : Int) ∧ valAt vals (v : Int) ≤ (varAt vs v).hi
theorem maybe_of (vs : List MVar) (vals : List Int) (h : hasS (beginS vs) vals = true) : MayBe vs vals := by
  obtain ⟨h1, h2⟩ := (hasS_iff _ _).1 h
  have hl : vals.length = vs.length := by rw [← h1]; simp [beginS]
  refine ⟨hl, fun v hv => ?_⟩
  have e1 : (beginS vs)[v]? = some (spanR (varAt vs v).lo (varAt vs v).hi) := by simp [beginS, varAt, hv, List.getD_eq_getElem?_getD]
  have e2 : vals[v]? = some (valAt vals (v : Int)) := by
    unfold valAt
    rw [Int.toNat_natCast, List.getD_eq_getElem?_getD, List.getElem?_eq_getElem (by omega)]; rfl
  have h3 := h2 v _ _ e1 e2
  unfold spanR at h3
  obtain ⟨k, hk, he⟩ := List.mem_map.1 h3
  have := List.mem_range.1 hk
  omega
theorem pos_parts (vs : List MVar) (hv : VarsOk vs) (vals : List Int) (hm : MayBe vs vals) (v : Nat) (h : v < vs.length) : posV vs vals v / 6 = v ∧ posV vs vals v % 6 < sizeV (varAt vs v) ∧ (varAt vs v).lo + ((posV vs vals v % 6 : Nat) : Int) = valAt vals (v : Int) := by
  have h1 := hm.2 v h
  have h2 := hv.2 v
  have h3 : posV vs vals v = 6 * v + (valAt vals (v : Int) - (varAt vs v).lo).toNat := rfl
  unfold sizeV at h2 ⊢
  omega
theorem bit_of (vs : List MVar) (hv : VarsOk vs) (vals : List Int) (hm : MayBe vs vals) (f : Nat → Int → Bool) (v : Nat) (h : v < vs.length) : (ofP vs f).testBit (posV vs vals v) = f v (valAt vals (v : Int)) := by
  obtain ⟨p1, p2, p3⟩ := pos_parts vs hv vals hm v h
  unfold ofP
  rw [testBit_of vs hv, p1, p3]
  simp [h, p2]
theorem held_claB (vs : List MVar) (c : Cla) (vals : List Int) (hc : ∀ l ∈ c, 0 ≤ l.var ∧ l.var < (vs.length : Int)) : claB c vals = true ↔ ∃ v : Nat, v < vs.length ∧ oneB c v (valAt vals (v : Int)) = true := by
  rw [claB_iff]
  constructor
  · rintro ⟨l, hl, h⟩
    have := hc l hl
    refine ⟨l.var.toNat, by omega, (oneB_iff _ _ _).2 ⟨l, hl, by omega, ?_⟩⟩
    unfold valAt
    rw [Int.toNat_natCast]; exact h
  · rintro ⟨v, _, h⟩
    obtain ⟨l, hl, he, h⟩ := (oneB_iff _ _ _).1 h
    refine ⟨l, hl, ?_⟩
    rw [he]; exact h
/-- Values hit a part: one of them is of it. -/
def Hits (vs : List MVar) (vals : List Int) (p : Nat) : Prop := ∃ v : Nat, v < vs.length ∧ p.testBit (posV vs vals v) = true
theorem held_hits (vs : List MVar) (hv : VarsOk vs) (vals : List Int) (hm : MayBe vs vals) (c : Cla) (hc : ∀ l ∈ c, 0 ≤ l.var ∧ l.var < (vs.length : Int)) : Hits vs vals (heldP vs c) ↔ claB c vals = true := by
  rw [held_claB vs c vals hc]
  constructor
  · rintro ⟨v, h, hb⟩
    unfold heldP at hb
    rw [bit_of vs hv vals hm _ v h] at hb
    exact ⟨v, h, hb⟩
  · rintro ⟨v, h, hb⟩
    refine ⟨v, h, ?_⟩
    unfold heldP
    rw [bit_of vs hv vals hm _ v h]
    exact hb
theorem lack_not (n p : Nat) (h : ∀ v, v < n → ∃ k, k < 6 ∧ p.testBit (6 * v + k) = true) : lackP n p = false := by
  cases hl : lackP n p
  · rfl
  · unfold lackP at hl
    obtain ⟨v, hv, hb⟩ := List.any_eq_true.1 hl
    obtain ⟨k, hk, hp⟩ := h v (List.mem_range.1 hv)
    have h0 : p / 2 ^ (v * 6) &&& 63 = 0 := by simpa using hb
    have := congrArg (fun q => Nat.testBit q k) h0
    simp only [Nat.testBit_and, testBit_63, Nat.testBit_div_two_pow, Nat.zero_testBit] at this
    rw [show k + v * 6 = 6 * v + k by omega, hp] at this
    simp [hk] at this
/-- All values are of a part. -/
def Within (vs : List MVar) (vals : List Int) (p : Nat) : Prop := ∀ v : Nat, v < vs.length → p.testBit (posV vs vals v) = true
theorem within_lack (vs : List MVar) (hv : VarsOk vs) (vals : List Int) (hm : MayBe vs vals) (p : Nat) (h : Within vs vals p) : lackP vs.length p = false := by
  refine lack_not _ _ fun v hl => ⟨posV vs vals v % 6, by omega, ?_⟩
  have := (pos_parts vs hv vals hm v hl).1
  have h2 := h v hl
  rw [show 6 * v + posV vs vals v % 6 = posV vs vals v by omega]
  exact h2
theorem within_rest (vs : List MVar) (hv : VarsOk vs) (vals : List Int) (hm : MayBe vs vals) (h : Nat) (hh : ¬ Hits vs vals h) : Within vs vals (lessN (wholeP vs) h) := by
  intro v hl
  rw [testBit_less]
  unfold wholeP
  rw [bit_of vs hv vals hm _ v hl]
  cases hb : h.testBit (posV vs vals v)
  · rfl
  · exact absurd ⟨v, hl, hb⟩ hh

theorem points_have (vs : List MVar) (c : MCon) (vals : List Int) (hm : MayBe vs vals) : ∀ (r u : List Int) (a : Nat), (∀ v ∈ r, 0 ≤ v ∧ v < (vs.length : Int)) → u.length = vs.length →
    (∀ u' : List Int, u'.length = vs.length → (∀ v ∈ r, valAt u' v = valAt vals v) → (∀ w : Int, (∀ v ∈ r, v.toNat ≠ w.toNat) → valAt u' w = valAt u w) → holdsC c u' = true) →
    ∃ p ∈ pointsN vs c r u a, ∀ i, p.testBit i = true → a.testBit i = true ∨ ∃ v : Nat, v < vs.length ∧ i = posV vs vals v
  | [], u, a, _, hu, hh => by
    have h := hh u hu (fun v hv => by cases hv) (fun _ _ => rfl)
    refine ⟨a, ?_, fun i hi => Or.inl hi⟩
    unfold pointsN
    rw [if_pos h]
    exact List.mem_singleton.2 rfl
  | v :: r, u, a, hr, hu, hh => by
    obtain ⟨v0, v1⟩ := hr v (List.mem_cons_self ..)
    have hvn : v.toNat < vs.length := by omega
    have hmv := hm.2 v.toNat hvn
    rw [show ((v.toNat : Nat) : Int) = v by omega] at hmv
    obtain ⟨p, hp, hb⟩ := points_have vs c vals hm r (u.set v.toNat (valAt vals v)) (a ||| 2 ^ (6 * v.toNat + (valAt vals v - (varAt vs v.toNat).lo).toNat)) (fun x hx => hr x (List.mem_cons_of_mem _ hx)) (by simpa using hu) (by
      intro u' h1 h2 h3
      refine hh u' h1 (fun x hx => ?_) (fun w hw => ?_)
      · rcases List.mem_cons.1 hx with rfl | hx
        · by_cases hq : ∃ y ∈ r, y.toNat = x.toNat
          · obtain ⟨y, hy, he⟩ := hq
            have := hr y (List.mem_cons_of_mem _ hy)
            have : y = x := by omega
            rw [← this]; exact h2 y hy
          · rw [h3 x (fun y hy he => hq ⟨y, hy, he⟩), valAt_set_self _ _ _ (by omega)]
        · exact h2 x hx
      · rw [h3 w (fun y hy => hw y (List.mem_cons_of_mem _ hy)), valAt_set_ne _ _ _ _ (hw v (List.mem_cons_self ..))])
    refine ⟨p, ?_, fun i hi => ?_⟩
    · unfold pointsN
      exact List.mem_flatMap.2 ⟨valAt vals v, mem_span _ _ _ hmv.1 hmv.2, hp⟩
    · rcases hb i hi with h | h
      · rw [Nat.testBit_or, Bool.or_eq_true] at h
        rcases h with h | h
        · exact Or.inl h
        · rw [testBit_pow] at h
          refine Or.inr ⟨v.toNat, hvn, ?_⟩
          unfold posV
          rw [show ((v.toNat : Nat) : Int) = v by omega]
          exact (of_decide_eq_true h).symm
      · exact Or.inr h
/-- WHAT A CONSTRAINT SAYS HOLDS WHERE IT DOES. -/
theorem says_hits (vs : List MVar) (hv : VarsOk vs) (c : MCon) (hsc : ∀ v ∈ scopeC c, 0 ≤ v ∧ v < (vs.length : Int)) (hl : c.kind = 10 → c.lits ≠ []) (h : Nat) (hs : saysP vs (pointsP vs c) h = true)
    (vals : List Int) (hm : MayBe vs vals) (hh : holdsC c vals = true) : Hits vs vals h := by
  apply Classical.byContradiction
  intro hn
  have hw := within_rest vs hv vals hm h hn
  unfold saysP at hs
  rw [within_lack vs hv vals hm _ hw, Bool.false_or] at hs
  obtain ⟨p, hp, hb⟩ := points_have vs c vals hm (scopeC c) (zerosOf vs.length) 0 hsc (by simp [zerosOf]) (fun u' _ h2 _ => by rw [holds_scope c u' vals h2 hl]; exact hh)
  have : (pointsP vs c).any (stayP h) = true := by
    refine List.any_eq_true.2 ⟨p, hp, ?_⟩
    unfold stayP
    have : p &&& h = 0 := by
      apply Nat.eq_of_testBit_eq
      intro i
      rw [Nat.testBit_and, Nat.zero_testBit]
      cases hpi : p.testBit i
      · rfl
      · rcases hb i hpi with h0 | ⟨v, hvl, rfl⟩
        · simp at h0
        · cases hhi : h.testBit (posV vs vals v)
          · rfl
          · exact absurd ⟨v, hvl, hhi⟩ hn
    simp [this]
  rw [this] at hs
  cases hs
theorem field_bit (p i : Nat) (h : lessN p (fieldP p) = 0) (hi : p.testBit i = true) : (fieldP p).testBit i = true := by
  have := congrArg (fun q => Nat.testBit q i) h
  simp only [testBit_less, hi, Nat.zero_testBit] at this
  simpa using this
theorem round_keeps (vs : List MVar) (hv : VarsOk vs) (vals : List Int) (hm : MayBe vs vals) : ∀ (cs : List Nat) (left : Nat), (∀ c ∈ cs, Hits vs vals c) → Within vs vals left → ∃ l, roundP cs left = some l ∧ Within vs vals l
  | [], left, _, hw => ⟨left, rfl, hw⟩
  | c :: r, left, hc, hw => by
    obtain ⟨v, hvl, hb⟩ := hc c (List.mem_cons_self ..)
    have ho : (left &&& c).testBit (posV vs vals v) = true := by rw [Nat.testBit_and, hw v hvl, hb]; rfl
    have hne : left &&& c ≠ 0 := fun h => by rw [h] at ho; simp at ho
    unfold roundP
    rw [if_neg hne]
    split
    · rename_i hf
      refine round_keeps vs hv vals hm r _ (fun d hd => hc d (List.mem_cons_of_mem _ hd)) fun u hu => ?_
      rw [testBit_less, hw u hu, testBit_less]
      by_cases huv : u = v
      · subst huv; rw [ho]; simp
      · have hfv := field_bit _ _ hf ho
        have : (fieldP (left &&& c)).testBit (posV vs vals u) = false := by
          unfold fieldP at hfv ⊢
          rw [testBit_six] at hfv ⊢
          rw [(pos_parts vs hv vals hm v hvl).1] at hfv
          rw [(pos_parts vs hv vals hm u hu).1]
          have : v = Lib.ctz 64 (left &&& c) / 6 := by simpa using hfv
          simp; omega
        rw [this]; simp
    · exact round_keeps vs hv vals hm r _ (fun d hd => hc d (List.mem_cons_of_mem _ hd)) hw
theorem unitsN_keeps (vs : List MVar) (hv : VarsOk vs) (vals : List Int) (hm : MayBe vs vals) (cs : List Nat) (hc : ∀ c ∈ cs, Hits vs vals c) : ∀ (f left : Nat), Within vs vals left → Within vs vals (unitsN cs f left)
  | 0, left, hw => hw
  | f + 1, left, hw => by
    obtain ⟨l, hl, hw2⟩ := round_keeps vs hv vals hm cs left hc hw
    unfold unitsN
    rw [hl]
    simp only
    split
    · exact hw
    · exact unitsN_keeps vs hv vals hm cs hc f l hw2
theorem units_keeps (vs : List MVar) (hv : VarsOk vs) (vals : List Int) (hm : MayBe vs vals) (cs : List Nat) (hc : ∀ c ∈ cs, Hits vs vals c) (p : Nat) (hw : Within vs vals p) : Within vs vals (unitsP vs cs p) := by
  unfold unitsP
  rw [within_lack vs hv vals hm _ hw]
  exact unitsN_keeps vs hv vals hm cs hc _ _ hw
theorem within_ne (vs : List MVar) (h1 : 1 ≤ vs.length) (vals : List Int) (p : Nat) (hw : Within vs vals p) : p ≠ 0 := by
  intro h0
  have := hw 0 (by omega)
  rw [h0, Nat.zero_testBit] at this
  cases this
/-- WHAT CLAUSES SAY HOLDS WHERE THEY DO. -/
theorem fails_hits (vs : List MVar) (hv : VarsOk vs) (h1 : 1 ≤ vs.length) (cs : List Nat) (h : Nat) (hs : failsP vs cs h = true) (vals : List Int) (hm : MayBe vs vals) (hc : ∀ c ∈ cs, Hits vs vals c) : Hits vs vals h := by
  apply Classical.byContradiction
  intro hn
  have hw := within_rest vs hv vals hm h hn
  unfold failsP at hs
  exact within_ne vs h1 vals _ (units_keeps vs hv vals hm cs hc _ hw) (by simpa using hs)

/-- Is a step right behind clauses? -/
def rightP (m : Mod) (ahead : List Nat) (s : MStep) : Bool :=
  if s.kind = 1 then saysP m.vars (pointsP m.vars (m.cons.getD s.con.toNat noCon)) (heldP m.vars s.cla)
  else if s.kind = 2 ∧ s.con = 0 then failsP m.vars ahead (heldP m.vars s.cla) else false
def stepsP (m : Mod) : List Nat → List MStep → Bool
  | _, [] => true
  | ahead, s :: r => rightP m ahead s && stepsP m (ahead ++ [heldP m.vars s.cla]) r
theorem vars_okP (m : Mod) (hm : checkM m = 0) : VarsOk m.vars := by
  refine ⟨(checkM_vars m hm).2.1, fun v => ?_⟩
  by_cases h : v < m.vars.length
  · have e : m.vars[v]? = some (varAt m.vars v) := by unfold varAt; rw [List.getD_eq_getElem?_getD, List.getElem?_eq_getElem h]; rfl
    have := var_ok m hm v _ e
    unfold sizeV
    omega
  · unfold varAt
    rw [List.getD_eq_getElem?_getD, List.getElem?_eq_none (by omega)]
    decide
theorem vars_one (m : Mod) (hm : checkM m = 0) : 1 ≤ m.vars.length := by
  have := (checkM_vars m hm).1
  omega
theorem steps_hits (m : Mod) (hm : checkM m = 0) (vals : List Int) (hv : MayBe m.vars vals) (hc : ∀ c ∈ m.cons, holdsC c vals = true) : ∀ (r : List MStep) (ahead : List Nat), (∀ s ∈ r, s.kind = 1 → 0 ≤ s.con ∧ s.con < (m.cons.length : Int)) →
    (∀ c ∈ ahead, Hits m.vars vals c) → stepsP m ahead r = true → ∀ s ∈ r, Hits m.vars vals (heldP m.vars s.cla)
  | [], _, _, _, _ => fun s hs => by cases hs
  | s :: r, ahead, hk, ha, h => by
    unfold stepsP at h
    rw [Bool.and_eq_true] at h
    have hs : Hits m.vars vals (heldP m.vars s.cla) := by
      have h1 := h.1
      unfold rightP at h1
      split at h1
      · rename_i hk1
        obtain ⟨c0, c1⟩ := hk s (List.mem_cons_self ..) hk1
        have hj : s.con.toNat < m.cons.length := by omega
        have e : m.cons[s.con.toNat]? = some (m.cons.getD s.con.toNat noCon) := by rw [List.getD_eq_getElem?_getD, List.getElem?_eq_getElem hj]; rfl
        obtain ⟨k1, k2⟩ := scope_in m hm _ _ e
        exact says_hits m.vars (vars_okP m hm) _ k1 k2 _ h1 vals hv (hc _ (List.mem_of_getElem? e))
      · split at h1
        · exact fails_hits m.vars (vars_okP m hm) (vars_one m hm) ahead _ h1 vals hv ha
        · cases h1
    intro t ht
    rcases List.mem_cons.1 ht with rfl | ht
    · exact hs
    · refine steps_hits m hm vals hv hc r _ (fun x hx => hk x (List.mem_cons_of_mem _ hx)) (fun c hcm => ?_) h.2 t ht
      rcases List.mem_append.1 hcm with hx | hx
      · exact ha c hx
      · rw [List.mem_singleton.1 hx]; exact hs
theorem cla_vars (m : Mod) (c : Cla) (h : claE m.vars c = 0) : ∀ l ∈ c, 0 ≤ l.var ∧ l.var < (m.vars.length : Int) := by
  have h1 := begin_in m c h
  intro l hl
  have := h1 l hl
  rw [begin_len] at this
  exact this
/-- WHERE THERE IS A PROOF, NO VALUES ARE SUCH. -/
theorem proof_none (m : Mod) (given : List Cla) (r : List MStep) (vals : List Int) (ha : allA m vals = (true, 0)) (hg : ∀ d ∈ given, claE m.vars d = 0) (hr : ∀ s ∈ r, claE m.vars s.cla = 0)
    (hk : ∀ s ∈ r, s.kind = 1 → 0 ≤ s.con ∧ s.con < (m.cons.length : Int)) (hh : ∀ d ∈ given, claB d vals = true) (hs : stepsP m (given.map (heldP m.vars)) r = true) (s : MStep) (hl : s ∈ r) (he : s.cla = []) : False := by
  obtain ⟨h0, h1, h2⟩ := allA_parts m vals ha
  have hm := maybe_of m.vars vals h1
  have hv := vars_okP m h0
  have := steps_hits m h0 vals hm h2 r _ hk (fun c hc => by
    obtain ⟨d, hd, rfl⟩ := List.mem_map.1 hc
    exact (held_hits m.vars hv vals hm d (cla_vars m d (hg d hd))).2 (hh d hd)) hs s hl
  rw [held_hits m.vars hv vals hm _ (cla_vars m _ (hr s hl)), he] at this
  cases this
/-- What a constraint says by itself holds where it does. -/
theorem con_holds (m : Mod) (j : Nat) (k : MCon) (hk : m.cons[j]? = some k) (c : Cla) (hc : claE m.vars c = 0) (vals : List Int) (ha : allA m vals = (true, 0)) (hs : saysP m.vars (pointsP m.vars k) (heldP m.vars c) = true) : claB c vals = true := by
  obtain ⟨h0, h1, h2⟩ := allA_parts m vals ha
  have hm := maybe_of m.vars vals h1
  have hv := vars_okP m h0
  obtain ⟨k1, k2⟩ := scope_in m h0 j k hk
  exact (held_hits m.vars hv vals hm c (cla_vars m c hc)).1 (says_hits m.vars hv k k1 k2 _ hs vals hm (h2 k (List.mem_of_getElem? hk)))
end Go.Proofs.YtijohkhpigjbkaeGreatDoor
/-
  WALKS: package fence: one value; those that are told; lacking; the field of the first variable.
-/
namespace Go.Proofs.YtijohkhpigjbkaeGreatDoor
open Go.RowKit

theorem var_at {vs : List MVar} {v : Nat} (h : v < vs.length) : vs[v]? = some (varAt vs v) := by
  unfold varAt; rw [List.getD_eq_getElem?_getD, List.getElem?_eq_getElem h]; rfl
theorem shl_one (c : Int) (k : Nat) (h : c = (k : Int)) (hk : k < 64) : IntKind.u64.wrap (2 ^ c.toNat) = ((2 ^ k : Nat) : Int) := by
  rw [IntKind.wrap_u64, h, Int.toNat_natCast]
  have h1 : (2 : Nat) ^ k < 2 ^ 64 := Nat.pow_lt_pow_right (by omega) hk
  have e : ((2 : Int) ^ k) = ((2 ^ k : Nat) : Int) := by simp
  rw [e]
  exact Int.emod_eq_of_lt (Int.natCast_nonneg _) (Int.ofNat_lt.2 h1)

set_option maxHeartbeats 400000 in
set_option maxRecDepth 100000 in
theorem one_any (vs : List MVar) (hvo : VarsOk vs) (v : Nat) (x : Int) (sv : Value) (w : World) (hv : VArg w sv vs) (hl : v < vs.length) (h1 : (varAt vs v).lo ≤ x) (h2 : x ≤ (varAt vs v).hi) (h3 : -50 ≤ (varAt vs v).lo ∧ (varAt vs v).hi ≤ 50) :
    Calls Tryz.prog 143 #[sv, .int .i64 v, .int .i64 x] w fun e w' => e = .returned (.int .u64 ((2 ^ (6 * v + (x - (varAt vs v).lo).toNat) : Nat) : Int)) ∧ w' = w := by
  obtain ⟨a, c, rfl, hm, hr⟩ := hv
  obtain ⟨_, b, off, rfl, hb, c0, c1, c2⟩ := hr v _ (var_at hl)
  unfold maxLen at hm
  obtain ⟨hm1, hm⟩ := hm
  have h6 := hvo.1
  have hs := hvo.2 v
  unfold sizeV at hs
  obtain ⟨lo, hlo⟩ : ∃ lo, (varAt vs v).lo = lo := ⟨_, rfl⟩
  rw [hlo] at h1 h3 hs c1 ⊢
  have HK : Hid (IntKind.u64.wrap (2 ^ ((v : Int) * 6 + x - lo).toNat) = ((2 ^ (6 * v + (x - lo).toNat) : Nat) : Int)) := shl_one _ _ (by omega) (by omega)
  have hsh : (0 : Int) ≤ (v : Int) * 6 + x - lo := by omega
  have hsl : (v : Int) * 6 + x - lo ≤ 64 := by omega
  clear hr hs hlo
  go_enter Tryz.func143, Tryz.ntmps143
  go_wp2
  go_ret
  exact ⟨ret_int HK.out, rfl⟩
/-- A closure over a variable and a value that only reads what is old. -/
def ClosF (F : Nat) (caps : Array Value) (vs : List MVar) (p : Nat → Int → Bool) (w : World) : Prop :=
  (∀ (args : Array Value) (w' : World), Sem.run Tryz.prog (callFunc F args) w' = .ok (.enter F args) w') ∧
  ∀ (k : Nat) (z : Int) (w' : World), k < vs.length → (varAt vs k).lo ≤ z → z ≤ (varAt vs k).hi → Below w.heap.size w w' → Calls Tryz.prog F (#[.int .i64 k, .int .i64 z] ++ caps) w' fun e w'' => e = .returned (.bool (p k z)) ∧ Below w'.heap.size w' w''
/-- As variables lie: few, with few values, none of them far. -/
def VarsAll (vs : List MVar) : Prop := VarsOk vs ∧ ∀ v : Nat, v < vs.length → -50 ≤ (varAt vs v).lo ∧ (varAt vs v).hi ≤ 50 ∧ (varAt vs v).lo ≤ (varAt vs v).hi
theorem vars_all (m : Mod) (hm : checkM m = 0) : VarsAll m.vars := ⟨vars_okP m hm, fun v hv => by
  have := var_ok m hm v _ (var_at hv)
  omega⟩
theorem or_lt36 {a b : Nat} (ha : a < 2 ^ 36) (hb : b < 2 ^ 36) : a ||| b < 2 ^ 36 := Nat.or_lt_two_pow ha hb
theorem pow_lt36 (vs : List MVar) (hv : VarsAll vs) (v k : Nat) (h : v < vs.length) (hk : k < sizeV (varAt vs v)) : 2 ^ (6 * v + k) < 2 ^ 36 := by
  have h1 := hv.1.1
  have h2 := hv.1.2 v
  exact Nat.pow_lt_pow_right (by omega) (by omega)
theorem row_lt36 (vs : List MVar) (hv : VarsAll vs) (f : Int → Bool) (v k : Nat) (h : v < vs.length) (hk : k ≤ sizeV (varAt vs v)) : rowP f (6 * v) (varAt vs v).lo k < 2 ^ 36 := by
  have h1 := hv.1.1
  have h2 := hv.1.2 v
  apply Nat.lt_pow_two_of_testBit
  intro i hi
  rw [testBit_row]
  have : ¬ (i < 6 * v + k) := by omega
  simp [this]

theorem rowP_skip (f : Int → Bool) (b : Nat) (lo : Int) (k : Nat) (h : f (lo + (k : Int)) = false) : rowP f b lo (k + 1) = rowP f b lo k := by
  show (if f (lo + (k : Int)) then _ else _) = _
  rw [h]; rfl
theorem rowP_put (f : Int → Bool) (b : Nat) (lo : Int) (k : Nat) (h : f (lo + (k : Int)) = true) : rowP f b lo (k + 1) = rowP f b lo k ||| 2 ^ (b + k) := by
  show (if f (lo + (k : Int)) then _ else _) = _
  rw [h]; rfl

set_option maxHeartbeats 800000 in
set_option maxRecDepth 100000 in
theorem of_any (F : Nat) (caps : Array Value) (vs : List MVar) (p : Nat → Int → Bool) (hva : VarsAll vs) (sv : Value) (w : World) (hv : VArg w sv vs) (hF : ClosF F caps vs p w) :
    Calls Tryz.prog 138 #[sv, .func (.func F) #[] caps] w fun e w' => e = .returned (.int .u64 ((ofP vs p : Nat) : Int)) ∧ Below w.heap.size w w' := by
  have HVA : Hid (∀ w' : World, Below w.heap.size w w' → VArg w' sv vs) := fun w' h => VArg.below h hv
  obtain ⟨a, c, rfl, hm, hr⟩ := hv
  have HV : Hid (∀ (i : Nat) (t : MVar), vs[i]? = some t → t.name.size ≤ maxLen ∧ ∃ b off, a = some ⟨b, off, none⟩ ∧ b < w.heap.size ∧
    w.cell? ⟨b, off + i * 3, none⟩ = some (.string t.name) ∧ w.cell? ⟨b, off + i * 3 + 1, none⟩ = some (.int .i64 t.lo) ∧ w.cell? ⟨b, off + i * 3 + 2, none⟩ = some (.int .i64 t.hi)) := hr
  have HF : Hid (ClosF F caps vs p w) := hF
  have HVO : Hid (VarsAll vs) := hva
  have h6 := hva.1.1
  unfold maxLen at hm
  obtain ⟨hm1, hm⟩ := hm
  clear hr hF hva
  go_enter Tryz.func138, Tryz.ntmps138
  go_wp2_with fail
  go_loopw [5, 11] (fun o i wr => ∃ k : Nat, k ≤ vs.length ∧ i = .int .i64 k ∧ o = .int .u64 ((ofN vs p k : Nat) : Int) ∧ Below w.heap.size w wr) (fun _ i _ => vs.length - (intOf i).toNat)
  case atStart => exact ⟨0, by omega, rfl, rfl, Below.refl _ _⟩
  case round =>
    obtain ⟨k, hk, rfl, rfl, hbw⟩ := hrel
    have HBW : Hid (Below w.heap.size w wr) := hbw
    clear hbw
    by_cases hlt : k < vs.length
    · obtain ⟨hnm, b, off, ha, hb, q0, q1, q2⟩ := HV.out k _ (var_at hlt)
      subst ha
      have hbn := HVO.out.2 k hlt
      have hsz := HVO.out.1.2 k
      have HSZ : Hid (sizeV (varAt vs k) = ((varAt vs k).hi + 1 - (varAt vs k).lo).toNat) := rfl
      obtain ⟨n, hn⟩ : ∃ n, sizeV (varAt vs k) = n := ⟨_, rfl⟩
      have HN : Hid (sizeV (varAt vs k) = n) := hn
      have hnn : (n : Int) = (varAt vs k).hi + 1 - (varAt vs k).lo := by
        have := HSZ.out
        omega
      have hn6 : n ≤ 6 := by omega
      have hc0 := (HBW.out.cell (p := ⟨b, off + k * 3, none⟩) hb).trans q0
      have hc1 := (HBW.out.cell (p := ⟨b, off + k * 3 + 1, none⟩) hb).trans q1
      have hc2 := (HBW.out.cell (p := ⟨b, off + k * 3 + 2, none⟩) hb).trans q2
      obtain ⟨lo, hlo⟩ : ∃ lo, (varAt vs k).lo = lo := ⟨_, rfl⟩
      obtain ⟨hi, hhi⟩ : ∃ hi, (varAt vs k).hi = hi := ⟨_, rfl⟩
      have HLO : Hid ((varAt vs k).lo = lo) := hlo
      have HHI : Hid ((varAt vs k).hi = hi) := hhi
      rw [hlo] at hc1 hbn hnn
      rw [hhi] at hc2 hbn hnn
      obtain ⟨nm, hnm2⟩ : ∃ nm, (varAt vs k).name = nm := ⟨_, rfl⟩
      rw [hnm2] at hc0
      have HO : Hid (ofN vs p (k + 1) = ofN vs p k ||| rowP (p k) (6 * k) lo n) := by show _ = _; rw [← hlo, ← hn]; rfl
      have HO36 : Hid (ofN vs p k < 2 ^ 36) := ofN_lt vs HVO.out.1 p k (by omega)
      have HROW : Hid (∀ j, j ≤ n → rowP (p k) (6 * k) lo j < 2 ^ 36) := fun j hj => by rw [← hlo]; exact row_lt36 vs HVO.out (p k) k j hlt (by omega)
      have HPOW : Hid (∀ j, j < n → 2 ^ (6 * k + j) < 2 ^ 36) := fun j hj => pow_lt36 vs HVO.out k j hlt (by omega)
      clear q0 q1 q2 hsz hn hlo hhi hnm hnm2 HSZ
      have hbs := HBW.out.size
      obtain ⟨B, hB⟩ : ∃ B, wr.heap.size = B := ⟨_, rfl⟩
      obtain ⟨o0, ho0⟩ : ∃ o0, ofN vs p k = o0 := ⟨_, rfl⟩
      have HO0 : Hid (ofN vs p k = o0) := ho0
      rw [ho0] at HO HO36 ⊢
      clear ho0
      have HVO2 : Hid (VarsOk vs) := HVO.out.1
      have hlk : (varAt vs k).lo = lo := HLO.out
      have HONE : Hid (∀ (j : Nat) (w' : World), j < n → Below w.heap.size w w' → Calls Tryz.prog 143 #[.slice (some ⟨b, off, none⟩) vs.length c, .int .i64 k, .int .i64 (lo + (j : Int))] w' fun e w'' => e = .returned (.int .u64 ((2 ^ (6 * k + j) : Nat) : Int)) ∧ w'' = w') := by
        intro j w' hj hb'
        have h1 := one_any vs HVO2.out k (lo + (j : Int)) _ w' (HVA.out w' hb') hlt (by rw [HLO.out]; omega) (by rw [HHI.out]; omega) (by rw [HLO.out, HHI.out]; omega)
        rw [HLO.out, show (lo + (j : Int) - lo).toNat = j by omega] at h1
        exact h1
      have HCLO : Hid (∀ (j : Nat) (w' : World), j < n → Below w.heap.size w w' → Calls Tryz.prog F (#[.int .i64 k, .int .i64 (lo + (j : Int))] ++ caps) w' fun e w'' => e = .returned (.bool (p k (lo + (j : Int)))) ∧ Below w'.heap.size w' w'') := by
        intro j w' hj hb'
        exact HF.out.2 k _ w' hlt (by rw [HLO.out]; omega) (by rw [HHI.out]; omega) hb'
      clear hlk
      go_wp2_with fail
      have HB : Hid (wr.heap.size = B) := hB
      have HB0 : Hid (Below w.heap.size w (wr.alloc (.cells #[.string nm, .int .i64 lo, .int .i64 hi] 103))) := HBW.out.alloc hbs _
      have HC2 : Hid ((wr.alloc (.cells #[.string nm, .int .i64 lo, .int .i64 hi] 103)).cell? ⟨B, 2, none⟩ = some (.int .i64 hi)) := by show _ = _; rw [← hB]; exact World.cell?_alloc_at _ _ _ 2 (by simp)
      have HW : Hid (w.heap.size ≤ B) := by rw [← hB]; exact hbs
      obtain ⟨W1, hW1⟩ : ∃ W1, wr.alloc (.cells #[.string nm, .int .i64 lo, .int .i64 hi] 103) = W1 := ⟨_, rfl⟩
      rw [hW1] at HB0 HC2 ⊢
      have HW1 : Hid (W1.heap.size = B + 1) := by show _ = _; rw [← hW1, ← hB]; simp
      clear hc0 hc1 hc2 hB hW1 hbs
      go_loopw [5, 8] (fun o i wr => ∃ j : Nat, j ≤ n ∧ i = .int .i64 (lo + (j : Int)) ∧ o = .int .u64 ((o0 ||| rowP (p k) (6 * k) lo j : Nat) : Int) ∧ Below W1.heap.size W1 wr) (fun _ i _ => (hi + 1 - intOf i).toNat)
      case atStart => exact ⟨0, by omega, by simp, by simp [rowP], Below.refl _ _⟩
      case round =>
        obtain ⟨j, hj, rfl, rfl, hbw2⟩ := hrel
        have hcc := (hbw2.cell (p := ⟨B, 2, none⟩) (by rw [HW1.out]; simp)).trans HC2.out
        have HBN : Hid (Below w.heap.size w wr) := HB0.out.trans (hbw2.mono (by rw [HW1.out]; have := HW.out; omega))
        have HBW2 : Hid (Below W1.heap.size W1 wr) := hbw2
        clear hbw2
        by_cases hlj : j < n
        · have hle : lo + (j : Int) ≤ hi := by omega
          have HCALL := HCLO.out j wr hlj HBN.out
          cases hq : p k (lo + (j : Int))
          · have HNX : Hid (rowP (p k) (6 * k) lo (j + 1) = rowP (p k) (6 * k) lo j) := rowP_skip _ _ _ _ hq
            obtain ⟨q, hqq⟩ : ∃ q, o0 ||| rowP (p k) (6 * k) lo j = q := ⟨_, rfl⟩
            have HQ : Hid (o0 ||| rowP (p k) (6 * k) lo j = q) := hqq
            rw [hqq]
            have HC3 : Hid (Calls Tryz.prog F (#[.int .i64 k, .int .i64 (lo + (j : Int))] ++ caps) wr fun e w'' => e = .returned (.bool false) ∧ Below wr.heap.size wr w'') := by rw [← hq]; exact HCALL
            clear hqq HCALL hq
            go_wp2_with fail
            rw [HF.out.1, Oper.upon_enter]
            refine HC3.out.mono ?_
            rintro e w1 ⟨rfl, hb1⟩
            have HB3 : Hid (Below W1.heap.size W1 w1) := HBW2.out.trans (hb1.mono HBW2.out.size)
            clear hb1 hcc
            go_wp2
            go_roundw
            case rel => exact ⟨j + 1, by omega, by go_num, by rw [HNX.out, HQ.out], HB3.out⟩
            case measure => simp [intOf]; omega
          · have HNX : Hid (rowP (p k) (6 * k) lo (j + 1) = rowP (p k) (6 * k) lo j ||| 2 ^ (6 * k + j)) := rowP_put _ _ _ _ hq
            obtain ⟨q, hqq⟩ : ∃ q, o0 ||| rowP (p k) (6 * k) lo j = q := ⟨_, rfl⟩
            have hq36 : q < 2 ^ 36 := by rw [← hqq]; exact or_lt36 HO36.out (HROW.out j hj)
            have hp36 := HPOW.out j hlj
            have HQ : Hid (o0 ||| rowP (p k) (6 * k) lo (j + 1) = q ||| 2 ^ (6 * k + j)) := by show _ = _; rw [HNX.out, ← hqq, Nat.or_assoc]
            rw [hqq]
            have HC3 : Hid (Calls Tryz.prog F (#[.int .i64 k, .int .i64 (lo + (j : Int))] ++ caps) wr fun e w'' => e = .returned (.bool true) ∧ Below wr.heap.size wr w'') := by rw [← hq]; exact HCALL
            have HO1 := HONE
            obtain ⟨t, ht⟩ : ∃ t, 2 ^ (6 * k + j) = t := ⟨_, rfl⟩
            have HT : Hid (2 ^ (6 * k + j) = t) := ht
            rw [ht] at HQ hp36
            have hor := bits_or_u64_nat q t (by omega) (by omega)
            clear hqq HCALL hq ht hq36 hp36
            go_wp2_with fail
            rw [HF.out.1, Oper.upon_enter]
            refine HC3.out.mono ?_
            rintro e w1 ⟨rfl, hb1⟩
            have HB3 : Hid (Below W1.heap.size W1 w1) := HBW2.out.trans (hb1.mono HBW2.out.size)
            have HBN3 : Hid (Below w.heap.size w w1) := HBN.out.trans (hb1.mono HBN.out.size)
            clear hb1 hcc
            go_wp2_with fail
            refine (HONE.out j w1 hlj HBN3.out).mono ?_
            rintro e w2 ⟨rfl, rfl⟩
            rw [HT.out]
            go_wp2
            go_roundw
            case rel => exact ⟨j + 1, by omega, by go_num, by rw [HQ.out], HB3.out⟩
            case measure => simp [intOf]; omega
        · have hle : ¬ (lo + (j : Int) ≤ hi) := by omega
          have hjn : j = n := by omega
          have HNX : Hid (o0 ||| rowP (p k) (6 * k) lo j = ofN vs p (k + 1)) := by show _ = _; rw [HO.out, hjn]
          clear hjn
          obtain ⟨q, hqq⟩ : ∃ q, o0 ||| rowP (p k) (6 * k) lo j = q := ⟨_, rfl⟩
          rw [hqq] at HNX ⊢
          clear hqq
          go_wp2
          go_roundw
          case rel => exact ⟨k + 1, by omega, by go_num, by rw [HNX.out], HBN.out⟩
          case measure => simp [intOf]; omega
    · have hke : k = vs.length := by omega
      subst hke
      go_wp2
      go_ret
      exact ⟨rfl, HBW.out⟩
theorem shr_and (p k : Nat) (hp : p < 2 ^ 36) : bits .and .u64 ((p : Int) / 2 ^ (k * 6)) 63 = ((p / 2 ^ (k * 6) &&& 63 : Nat) : Int) := by
  have e2 : (p : Int) / 2 ^ (k * 6) = ((p / 2 ^ (k * 6) : Nat) : Int) := by simp
  rw [e2]
  have h1 : p / 2 ^ (k * 6) ≤ p := Nat.div_le_self _ _
  exact bits_and_u64_nat _ 63 (by omega) (by omega)
theorem lack_hit (n p k : Nat) (h : k < n) (h0 : p / 2 ^ (k * 6) &&& 63 = 0) : lackP n p = true := by
  unfold lackP
  exact List.any_eq_true.2 ⟨k, List.mem_range.2 h, by simp [h0]⟩
theorem lack_none (n p : Nat) (h : ∀ k, k < n → p / 2 ^ (k * 6) &&& 63 ≠ 0) : lackP n p = false := by
  cases hl : lackP n p
  · rfl
  · unfold lackP at hl
    obtain ⟨v, hv, hb⟩ := List.any_eq_true.1 hl
    exact absurd (by simpa using hb) (h v (List.mem_range.1 hv))

set_option maxHeartbeats 400000 in
set_option maxRecDepth 100000 in
theorem lacking_any (vs : List MVar) (hn : vs.length ≤ 6) (p : Nat) (hp : p < 2 ^ 36) (sv : Value) (w : World) (hv : VArg w sv vs) :
    Calls Tryz.prog 148 #[sv, .int .u64 p] w fun e w' => e = .returned (.bool (lackP vs.length p)) ∧ w' = w := by
  obtain ⟨a, c, rfl, hm, _⟩ := hv
  unfold maxLen at hm
  obtain ⟨hm1, hm⟩ := hm
  obtain ⟨R, hR⟩ : ∃ R, lackP vs.length p = R := ⟨_, rfl⟩
  rw [hR]
  have HR : Hid (lackP vs.length p = R) := hR
  clear hR
  have HP : Hid (p < 2 ^ 36) := hp
  clear hp
  go_enter Tryz.func148, Tryz.ntmps148
  go_wp2_with fail
  go_loopw [8] (fun i wr => ∃ k : Nat, k ≤ vs.length ∧ i = .int .i64 k ∧ Hid (∀ j, j < k → p / 2 ^ (j * 6) &&& 63 ≠ 0) ∧ wr = w) (fun i _ => vs.length - (intOf i).toNat)
  case atStart => exact ⟨0, by omega, rfl, fun j h => by omega, rfl⟩
  case round =>
    obtain ⟨k, hk, rfl, hall, rfl⟩ := hrel
    by_cases hlt : k < vs.length
    · obtain ⟨q, hq⟩ : ∃ q, p / 2 ^ (k * 6) &&& 63 = q := ⟨_, rfl⟩
      have hb := shr_and p k HP.out
      rw [hq] at hb
      have HQ : Hid (p / 2 ^ (k * 6) &&& 63 = q) := hq
      clear hq
      have h2 : (0 : Int) ≤ (k : Int) * 6 := by omega
      by_cases h0 : q = 0
      · have HN : Hid (R = true) := by show _ = _; rw [← HR.out]; exact lack_hit _ _ k hlt (by rw [HQ.out]; exact h0)
        subst h0
        go_wp2
        go_ret
        exact ⟨ret_bool HN.out.symm, rfl⟩
      · have HN : Hid (∀ j, j < k + 1 → p / 2 ^ (j * 6) &&& 63 ≠ 0) := fun j hj => by
          by_cases hjk : j = k
          · subst hjk; rw [HQ.out]; exact h0
          · exact hall.out j (by omega)
        have h0' : ((q : Int) == 0) = false := by simpa using h0
        clear hall
        go_wp2
        go_roundw
        case rel => exact ⟨k + 1, by omega, by go_num, HN, trivial⟩
        case measure => simp [intOf]; omega
    · have hke : k = vs.length := by omega
      have HN : Hid (R = false) := by show _ = _; rw [← HR.out]; exact lack_none _ _ (by rw [← hke]; exact hall.out)
      clear hall hke
      go_wp2
      go_ret
      exact ⟨ret_bool HN.out.symm, rfl⟩
end Go.Proofs.YtijohkhpigjbkaeGreatDoor
/-
  WALKS: package store: rises; slices.Index, Contains, IndexFunc, ContainsFunc over numbers.
-/
namespace Go.Proofs.YtijohkhpigjbkaeGreatDoor
open Go.RowKit

theorem draws_below {w w' : World} {n : Nat} (h : w' = w.drewN n) : Below w.heap.size w w' := by rw [h]; exact below_drewN (Below.refl _ _) _
theorem rises_get (l : List Int) : risesB l = true ↔ ∀ (i : Nat) x y, l[i]? = some x → l[i + 1]? = some y → x < y := by
  induction l with
  | nil => simp [risesB]
  | cons a r ih =>
    cases r with
    | nil => simp [risesB]
    | cons b r =>
      simp only [risesB, Bool.and_eq_true, decide_eq_true_eq]
      rw [ih]
      constructor
      · rintro ⟨h0, h1⟩ i x y hx hy
        cases i with
        | zero => simp at hx hy; omega
        | succ i => exact h1 i x y (by simpa using hx) (by simpa using hy)
      · intro h
        exact ⟨h 0 a b rfl rfl, fun i x y hx hy => h (i + 1) x y (by simpa using hx) (by simpa using hy)⟩
theorem rises_take (l : List Int) (k : Nat) (x y : Int) (hx : l[k]? = some x) (hy : l[k + 1]? = some y) (h : risesB (l.take (k + 1)) = true) (hxy : x < y) : risesB (l.take (k + 1 + 1)) = true := by
  rw [rises_get] at *
  intro i u v hu hv
  rw [List.getElem?_take] at hu hv
  split at hv
  · split at hu
    · by_cases hi : i = k
      · subst hi; rw [hx] at hu; rw [hy] at hv; cases hu; cases hv; exact hxy
      · exact h i u v (by rw [List.getElem?_take, if_pos (by omega)]; exact hu) (by rw [List.getElem?_take, if_pos (by omega)]; exact hv)
    · cases hu
  · cases hv
theorem rises_hit (l : List Int) (k : Nat) (x y : Int) (hx : l[k]? = some x) (hy : l[k + 1]? = some y) (hxy : y ≤ x) : risesB l = false := by
  cases h : risesB l
  · rfl
  · have := (rises_get l).1 h k x y hx hy; omega
theorem rises_one (l : List Int) : risesB (l.take 1) = true := by
  rcases l with _ | ⟨a, r⟩ <;> simp [risesB]

set_option maxHeartbeats 800000 in
set_option maxRecDepth 100000 in
theorem rises_any (l : List Int) (v : Value) (w : World) (hv : IArg w v l) :
    Calls Tryz.prog 197 #[v] w fun e w' => e = .returned (.bool (risesB l)) ∧ ∃ n, w' = w.drewN n := by
  obtain ⟨a, c, rfl, hm, hr⟩ := hv
  have HV : Hid (∀ (i : Nat) (z : Int), l[i]? = some z → ∃ b off, a = some ⟨b, off, none⟩ ∧ b < w.heap.size ∧ w.cell? ⟨b, off + i, none⟩ = some (.int .i64 z)) := hr
  obtain ⟨R, hR⟩ : ∃ R, risesB l = R := ⟨_, rfl⟩
  rw [hR]
  have HR : Hid (risesB l = R) := hR
  unfold maxLen at hm
  obtain ⟨hm1, hm⟩ := hm
  clear hr hR
  go_enter Tryz.func197, Tryz.ntmps197
  go_wp2_with fail
  go_loopw [3] (fun i wr => ∃ k : Nat, (k = 0 ∨ k + 1 ≤ l.length) ∧ i = .int .i64 ((k : Int) + 1) ∧ Hid (risesB (l.take (k + 1)) = true) ∧ ∃ n, wr = w.drewN n) (fun i _ => l.length - (intOf i).toNat)
  case atStart => exact ⟨0, by omega, rfl, rises_one l, 0, rfl⟩
  case round =>
    obtain ⟨k, hk, rfl, hall, nq, rfl⟩ := hrel
    by_cases hlt : k + 1 < l.length
    · obtain ⟨y, hy⟩ : ∃ y, l[k + 1]? = some y := ⟨l[k + 1], by simp [hlt]⟩
      obtain ⟨x, hx⟩ : ∃ x, l[k]? = some x := ⟨l[k]'(by omega), by simp [show k < l.length by omega]⟩
      obtain ⟨b, off, ha, hb, hc⟩ := HV.out (k + 1) y hy
      obtain ⟨b', off', ha', hb', hd⟩ := HV.out k x hx
      have HX : Hid (l[k]? = some x) := hx
      have HY : Hid (l[k + 1]? = some y) := hy
      rw [ha] at ha'
      cases ha'
      subst ha
      clear hx hy hb'
      by_cases hq : y ≤ x
      · have HN : Hid (R = false) := by rw [← HR.out]; exact rises_hit l k x y HX.out HY.out hq
        go_wp2
        go_quiet (fail)
        go_wp2
        go_ret
        exact ⟨ret_bool HN.out.symm, _, drewN_drewN _ _ _⟩
      · have HN : Hid (risesB (l.take (k + 1 + 1)) = true) := rises_take l k x y HX.out HY.out hall.out (by omega)
        go_wp2
        go_quiet (fail)
        go_wp2
        go_roundw
        case rel => exact ⟨k + 1, by omega, by go_num, HN, _, rfl⟩
        case measure => simp [intOf]; omega
    · have HN : Hid (R = true) := by
        have := hall.out; rw [List.take_of_length_le (by omega), HR.out] at this; exact this
      go_wp2
      go_ret
      exact ⟨ret_bool HN.out.symm, _, rfl⟩

theorem any_hit {α : Type} (p : α → Bool) (l : List α) (m : Nat) (t : α) (ht : l[m]? = some t) (h : p t = true) : l.any p = true := List.any_eq_true.2 ⟨t, List.mem_of_getElem? ht, h⟩
theorem any_next {α : Type} (p : α → Bool) (l : List α) (m : Nat) (t : α) (ht : l[m]? = some t) (h0 : (l.take m).any p = false) (h : p t = false) : (l.take (m + 1)).any p = false := by
  rw [List.take_add_one, ht, List.any_append, h0]; simp [h]
theorem any_end {α : Type} (p : α → Bool) (l : List α) (m : Nat) (h : ¬ m < l.length) (h0 : (l.take m).any p = false) : l.any p = false := by
  rwa [List.take_of_length_le (by omega)] at h0

/-- A closure over numbers that only reads what is old. -/
def ClosI (F : Nat) (caps : Array Value) (p : Int → Bool) (w : World) : Prop :=
  (∀ (args : Array Value) (w' : World), Sem.run Tryz.prog (callFunc F args) w' = .ok (.enter F args) w') ∧ ∀ (z : Int) (w' : World), Below w.heap.size w w' → Calls Tryz.prog F (#[.int .i64 z] ++ caps) w' fun e w'' => e = .returned (.bool (p z)) ∧ Below w'.heap.size w' w''
set_option maxHeartbeats 400000 in
set_option maxRecDepth 100000 in
theorem index_ints (l : List Int) (v : Value) (n : Int) (w : World) (hv : IArg w v l) :
    Calls Tryz.prog 78 #[v, .int .i64 n] w fun e w' => (∃ z : Int, e = .returned (.int .i64 z) ∧ decide (0 ≤ z) = hasB l n) ∧ w' = w := by
  obtain ⟨a, c, rfl, hm, hr⟩ := hv
  have HV : Hid (∀ (i : Nat) (z : Int), l[i]? = some z → ∃ b off, a = some ⟨b, off, none⟩ ∧ b < w.heap.size ∧ w.cell? ⟨b, off + i, none⟩ = some (.int .i64 z)) := hr
  obtain ⟨R, hR⟩ : ∃ R, hasB l n = R := ⟨_, rfl⟩
  rw [hR]
  have HR : Hid ((l.any fun k => n == k) = R) := hR
  unfold maxLen at hm
  obtain ⟨hm1, hm⟩ := hm
  clear hr hR
  go_enter Tryz.func78, Tryz.ntmps78
  go_wp2_with fail
  go_loop [8] (fun i => ∃ m : Nat, m ≤ l.length ∧ i = .int .i64 m ∧ Hid ((l.take m).any (fun k => n == k) = false)) (fun i => l.length - (intOf i).toNat)
  case atStart => exact ⟨0, by omega, rfl, rfl⟩
  case round =>
    obtain ⟨m, hml, rfl, hall⟩ := hrel
    by_cases hlt : m < l.length
    · obtain ⟨z, hz⟩ : ∃ z, l[m]? = some z := ⟨l[m], by simp [hlt]⟩
      obtain ⟨b, off, ha, hb, hc⟩ := HV.out m z hz
      have HZ : Hid (l[m]? = some z) := hz
      subst ha
      clear hz
      cases hq : (n == z)
      · have HN : Hid ((l.take (m + 1)).any (fun k => n == k) = false) := any_next _ l m z HZ.out hall.out hq
        go_wp2
        go_round
        case rel => exact ⟨m + 1, by omega, by go_num, HN⟩
        case measure => simp [intOf]; omega
      · have HN : Hid (R = true) := by rw [← HR.out]; exact any_hit (fun k => n == k) l m z HZ.out hq
        go_wp2
        go_ret
        exact ⟨⟨_, rfl, by rw [HN.out]; simp⟩, rfl⟩
    · have HN : Hid (R = false) := by rw [← HR.out]; exact any_end _ l m hlt hall.out
      go_wp2
      go_ret
      exact ⟨⟨_, rfl, by rw [HN.out]; rfl⟩, rfl⟩

set_option maxHeartbeats 400000 in
theorem contains_ints (l : List Int) (v : Value) (n : Int) (w : World) (hv : IArg w v l) :
    Calls Tryz.prog 39 #[v, .int .i64 n] w fun e w' => e = .returned (.bool (hasB l n)) ∧ w' = w := by
  go_enter Tryz.func39, Tryz.ntmps39
  go_wp2_with fail
  refine (index_ints l v n _ hv).mono ?_
  rintro e w ⟨⟨z, rfl, hz⟩, rfl⟩
  have HZ : Hid (decide (0 ≤ z) = hasB l n) := hz
  clear hz
  go_wp2
  go_ret
  exact ⟨ret_bool HZ.out, rfl⟩


set_option maxHeartbeats 800000 in
set_option maxRecDepth 100000 in
theorem indexf_ints (F : Nat) (caps : Array Value) (p : Int → Bool) (l : List Int) (v : Value) (w : World) (hv : IArg w v l) (hF : ClosI F caps p w) :
    Calls Tryz.prog 215 #[v, .func (.func F) #[] caps] w fun e w' => (∃ z : Int, e = .returned (.int .i64 z) ∧ decide (0 ≤ z) = l.any p) ∧ Below w.heap.size w w' := by
  obtain ⟨a, c, rfl, hm, hr⟩ := hv
  have HV : Hid (∀ (i : Nat) (z : Int), l[i]? = some z → ∃ b off, a = some ⟨b, off, none⟩ ∧ b < w.heap.size ∧ w.cell? ⟨b, off + i, none⟩ = some (.int .i64 z)) := hr
  obtain ⟨R, hR⟩ : ∃ R, l.any p = R := ⟨_, rfl⟩
  rw [hR]
  have HR : Hid (l.any p = R) := hR
  have HF : Hid (ClosI F caps p w) := hF
  unfold maxLen at hm
  obtain ⟨hm1, hm⟩ := hm
  clear hr hR hF
  go_enter Tryz.func215, Tryz.ntmps215
  go_wp2_with fail
  go_loopw [8] (fun i wr => ∃ m : Nat, m ≤ l.length ∧ i = .int .i64 m ∧ Hid ((l.take m).any p = false) ∧ Below w.heap.size w wr) (fun i _ => l.length - (intOf i).toNat)
  case atStart => exact ⟨0, by omega, rfl, rfl, Below.refl _ _⟩
  case round =>
    obtain ⟨m, hml, rfl, hall, hbw⟩ := hrel
    by_cases hlt : m < l.length
    · obtain ⟨z, hz⟩ : ∃ z, l[m]? = some z := ⟨l[m], by simp [hlt]⟩
      obtain ⟨b, off, ha, hb, hc0⟩ := HV.out m z hz
      have hc := (hbw.cell (p := ⟨b, off + m, none⟩) hb).trans hc0
      have HZ : Hid (l[m]? = some z) := hz
      subst ha
      clear hz hc0
      cases hq : p z
      · have HN : Hid ((l.take (m + 1)).any p = false) := any_next _ l m z HZ.out hall.out hq
        go_wp2_with fail
        rw [HF.out.1, Oper.upon_enter]
        refine (HF.out.2 z _ hbw).mono ?_
        rintro e w1 ⟨rfl, hb1⟩
        rw [hq]
        clear hq
        go_wp2
        go_roundw
        case rel => exact ⟨m + 1, by omega, by go_num, HN, hbw.trans (hb1.mono hbw.size)⟩
        case measure => simp [intOf]; omega
      · have HN : Hid (R = true) := by rw [← HR.out]; exact any_hit p l m z HZ.out hq
        go_wp2_with fail
        rw [HF.out.1, Oper.upon_enter]
        refine (HF.out.2 z _ hbw).mono ?_
        rintro e w1 ⟨rfl, hb1⟩
        rw [hq]
        clear hq
        go_wp2
        go_ret
        exact ⟨⟨_, rfl, by rw [HN.out]; simp⟩, hbw.trans (hb1.mono hbw.size)⟩
    · have HN : Hid (R = false) := by rw [← HR.out]; exact any_end _ l m hlt hall.out
      go_wp2
      go_ret
      exact ⟨⟨_, rfl, by rw [HN.out]; rfl⟩, hbw⟩

set_option maxHeartbeats 400000 in
theorem containsf_ints (F : Nat) (caps : Array Value) (p : Int → Bool) (l : List Int) (v : Value) (w : World) (hv : IArg w v l) (hF : ClosI F caps p w) :
    Calls Tryz.prog 170 #[v, .func (.func F) #[] caps] w fun e w' => e = .returned (.bool (l.any p)) ∧ Below w.heap.size w w' := by
  go_enter Tryz.func170, Tryz.ntmps170
  go_wp2_with fail
  refine (indexf_ints F caps p l v _ hv hF).mono ?_
  rintro e w1 ⟨⟨z, rfl, hz⟩, hb1⟩
  have HZ : Hid (decide (0 ≤ z) = l.any p) := hz
  clear hz
  go_wp2
  go_ret
  exact ⟨ret_bool HZ.out, hb1⟩
end Go.Proofs.YtijohkhpigjbkaeGreatDoor
