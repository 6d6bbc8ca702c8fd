/-
  PART 4 of what the proof leans on (ModT, FilPlain, FixPlain2, PrfPlain, FenPlain, ExpPlain).
-/
import Derived.Test.YtdjbejlbmaiocagGreatDoorPartC
import Derived.Laws.Bits64b
import Derived.Lib.TrailingZeros
/-
  WALK: package model: Scope.
-/
namespace Go.Proofs.YtdjbejlbmaiocagGreatDoor
open Go.RowKit Go.Sort

def scopeL (c : MCon) : List Int := c.vars ++ c.lits.map (·.var)
def scopeC (c : MCon) : List Int := compI (sortI (scopeL c))
def scopeA (m : Mod) (con : Int) : List Int × Int := if conCheck m con = 0 then (scopeC (m.cons.getD con.toNat noCon), 0) else ([], conCheck m con)

/-- Numbers with room: made. -/
theorem make_room (n : Nat) (hn : n ≤ 1000) (w : World) : ∃ w', Sem.run Tryz.prog (Instr.makeSlice 26 (.int .i64 0) (.int .i64 (n : Int))) w = .ok (.slice (some ⟨w.heap.size, 0, none⟩) 0 n) w' ∧
    w'.ownsRow w.heap.size 3 1 (.slice (some ⟨w.heap.size, 0, none⟩) 0 n) 0 [] ∧ Below w.heap.size w w' := by
  obtain ⟨i0, hi, hz0, hz1, hz2⟩ := info_parts Tryz.infoInt0
  obtain ⟨w', hrun, hown, hg⟩ := run_makeSlice_owned w w.heap.size 26 3 i0 (.int .i64 0) 1 Tryz.underInts0 hi hz0 hz1 .i64 .i64 n (by omega) (by rw [hz2]; omega) (by unfold maxLen; omega) (Nat.le_refl _)
  exact ⟨w', hrun, hown, (Below.refl _ _).grown hg (Nat.le_refl _) (fun k h => by cases h)⟩
/-- Nothing is appended. -/
theorem append_nothing (w : World) (ty : TypeId) (base n c : Nat) (v : Value) (xs : List Value) (hown : w.ownsRow base 3 1 v n xs) :
    (Builtin.append_ #[26, 26] ty #[v, .slice none 0 c]).run Tryz.prog w = .ok v w := by
  obtain ⟨i0, hi, hz0, hz1, hz2⟩ := info_parts Tryz.infoInt0
  rcases hown.2 with ⟨rfl, rfl⟩ | ⟨g, cap, cur, rfl, _, _, hnc, _⟩
  · simp [Builtin.append_, run_underlying Tryz.underInts0, sizeOf, typeInfo, hi, Builtin.lenOf, Builtin.firstCells]
  · simp [Builtin.append_, run_underlying Tryz.underInts0, sizeOf, typeInfo, hi, Builtin.lenOf, Builtin.firstCells, hnc, storeCells]
theorem ints_one (l : List Int) : ∀ u ∈ l.map (Value.int .i64), u.oneCell' = true := by
  intro u hu
  obtain ⟨z, _, rfl⟩ := List.mem_map.1 hu
  rfl
theorem add_at (b off j : Nat) : (⟨b, off, none⟩ : Addr).add j = ⟨b, off + j, none⟩ := by unfold Addr.add; split <;> simp_all

/-- Numbers are appended, whatever list they lie in. -/
theorem wpList_append_ints {w : World} {ops : Array Oper} {rest : List Oper} {o : Oper} {a : Act} {Q : Exit → Act → World → Prop} (hgd : o.guard = none) (s x : Operand)
    (ho : o.op = .call { callee := .builtin .append, args := #[s, x], argTypes := #[26, 26] }) (base : Nat)
    (v : Value) (xs : List Int) (hs : a.eval s = v) (hown : w.ownsRow base 3 1 v xs.length (xs.map (Value.int .i64)))
    (u : Value) (l : List Int) (hx : a.eval x = u) (hl : IArg w u l) (hn : xs.length + l.length ≤ 1000) (hbase : base ≤ w.heap.size)
    (h : ∀ v' w', w'.ownsRow base 3 1 v' (xs ++ l).length ((xs ++ l).map (Value.int .i64)) → w.grownBy w' v.ownBlock → (v ≠ .slice none 0 0 → v' ≠ .slice none 0 0) → wpList Tryz.prog ops Q rest (a.put o.dst v') w') : wpList Tryz.prog ops Q (o :: rest) a w := by
  obtain ⟨i0, hi, hz0, hz1, hz2⟩ := info_parts Tryz.infoInt0
  obtain ⟨q, c, rfl, hm, hc⟩ := hl
  cases q with
  | none =>
    have hl0 : l = [] := by
      cases l with
      | nil => rfl
      | cons z r => obtain ⟨b, off, hq, _⟩ := hc 0 z rfl; cases hq
    subst hl0
    refine wpList_plain hgd fun K hK => ?_
    have hr := append_nothing w o.type base xs.length c v _ hown
    unfold Oper.wp execOp
    simp only [ho, resolve, invoke, builtin, Sem.run_bind, Sem.run_pure, Result.andThen_ok, List.map_toArray, List.map_cons, List.map_nil, hs, hx, List.length_nil, hr]
    exact hK _ _ (h v w (by rw [List.append_nil]; exact hown) ⟨rfl, rfl, rfl, Nat.le_refl _, fun _ _ _ => rfl⟩ (fun h => h))
  | some ad =>
    refine wpList_append_own w hgd s x 26 ho base 3 i0 (.int .i64 0) 1 8 Tryz.underInts0 hi hz0 hz1 hz2 rfl (by decide) v xs.length _ hs hown ad l.length c (l.map (Value.int .i64)) hx (by simp) ?_ (ints_one l) (by unfold maxLen; omega) (by omega) hbase ?_
    · intro j y hy
      rw [List.getElem?_map] at hy
      obtain ⟨z, hz, rfl⟩ := Option.map_eq_some_iff.1 hy
      obtain ⟨b, off, hq, _, hcell⟩ := hc j z hz
      cases hq
      rw [add_at]; exact hcell
    · intro v' w' h1 h2 h3
      refine h v' w' (by rw [List.length_append, List.map_append]; exact h1) h2 (fun hv hv' => hv (h3.1 hv').1)

def accL (c : MCon) (k : Nat) : List Int := c.vars ++ (c.lits.take k).map (·.var)
theorem accL_zero (c : MCon) : accL c 0 = c.vars := by simp [accL]
theorem accL_next (c : MCon) (k : Nat) (t : MLit) (h : c.lits[k]? = some t) : accL c (k + 1) = accL c k ++ [t.var] := by
  unfold accL; rw [List.take_add_one, h]; simp
theorem accL_len (c : MCon) (k : Nat) (h : k ≤ c.lits.length) : (accL c k).length = c.vars.length + k := by
  unfold accL; simp; omega
theorem accL_all (c : MCon) : accL c c.lits.length = scopeL c := by unfold accL scopeL; rw [List.take_length]
theorem own_shape {w : World} {base n : Nat} {v : Value} {xs : List Value} (h : w.ownsRow base 3 1 v n xs) : ∃ a cap, v = .slice a n cap := by
  rcases h.2 with ⟨rfl, rfl⟩ | ⟨g, cap, cur, rfl, _⟩
  · exact ⟨_, _, rfl⟩
  · exact ⟨_, _, rfl⟩
theorem own_there {w : World} {base n : Nat} {v : Value} {xs : List Value} (h : w.ownsRow base 3 1 v n xs) (hv : v ≠ .slice none 0 0) : ∃ g cap, v = .slice (some ⟨g, 0, none⟩) n cap ∧ base ≤ g ∧ n ≤ cap ∧ cap ≤ maxLen := by
  rcases h.2 with ⟨rfl, rfl⟩ | ⟨g, cap, cur, rfl, hg, _, hc, hm, _⟩
  · exact absurd rfl hv
  · exact ⟨g, cap, rfl, hg, hc, hm⟩
theorem one_arg (w : World) (o : Obj) (z : Int) : IArg ((w.alloc o).alloc (.cells #[.int .i64 z] 3)) (.slice (some ⟨w.heap.size + 1, 0, none⟩) 1 1) [z] := by
  refine ⟨_, 1, rfl, ⟨by simp, by unfold maxLen; omega⟩, fun i y hy => ?_⟩
  match i, hy with
  | 0, hy => cases hy; exact ⟨_, 0, rfl, by simp, World.cell?_alloc_at _ _ _ _ (by simp)⟩

set_option maxHeartbeats 1600000 in
set_option maxRecDepth 100000 in
theorem mscope_any (m : Mod) (con : Int) (vs cs : Value) (w : World) (hm : MArg w vs cs m) :
    Calls Tryz.prog 34 #[modV vs cs m, .int .i64 con] w fun e w' => ∃ x, e = .returned (.tuple #[x, .int .i64 (scopeA m con).2]) ∧ IArg w' x (scopeA m con).1 ∧ Below w.heap.size w w' := by
  have HMA : Hid (∀ w' : World, Below w.heap.size w w' → MArg w' vs cs m) := fun w' h => MArg.below h hm
  obtain ⟨⟨a1, c1, rfl, _, _⟩, ⟨a2, c2, rfl, hl2, hr2⟩⟩ := hm
  have HC : Hid (∀ (i : Nat) (t : MCon), m.cons[i]? = some t → ∃ b off vv vc vr vl, a2 = some ⟨b, off, none⟩ ∧ b < w.heap.size ∧
    w.cell? ⟨b, off + i * 6, none⟩ = some (.int .i64 t.kind) ∧ w.cell? ⟨b, off + i * 6 + 1, none⟩ = some vv ∧ w.cell? ⟨b, off + i * 6 + 2, none⟩ = some vc ∧
    w.cell? ⟨b, off + i * 6 + 3, none⟩ = some (.int .i64 t.n) ∧ w.cell? ⟨b, off + i * 6 + 4, none⟩ = some vr ∧ w.cell? ⟨b, off + i * 6 + 5, none⟩ = some vl ∧ KArg w vv vc vr vl t) := hr2
  unfold maxLen at hl2
  obtain ⟨hl21, hl2⟩ := hl2
  obtain ⟨R, hR⟩ : ∃ R, scopeA m con = R := ⟨_, rfl⟩
  rw [hR]
  obtain ⟨er, her⟩ : ∃ er, conCheck m con = er := ⟨_, rfl⟩
  have HER : Hid (conCheck m con = er) := her
  have HE : Hid (R = if er = 0 then (scopeC (m.cons.getD con.toNat noCon), 0) else ([], er)) := by rw [← hR, ← her]; rfl
  clear hR her hr2
  unfold modV
  go_enter Tryz.func34, Tryz.ntmps34
  go_wp2_with fail
  refine (check_con m con (.slice a1 m.vars.length c1) (.slice a2 m.cons.length c2) _ ?_).mono ?_
  · exact HMA.out _ (below_alloc _ _)
  rintro e w1 ⟨rfl, hb1⟩
  rw [HER.out]
  have d1 : w1.cell? ⟨w.heap.size, 1, none⟩ = some (.slice a2 m.cons.length c2) := (hb1.cell (by simp)).trans (by simp)
  have HB1 : Hid (Below w.heap.size w w1) := (below_alloc _ _).trans (hb1.mono (by simp))
  have hs1 : w.heap.size + 1 ≤ w1.heap.size := by simpa using hb1.size
  clear hb1
  by_cases he : er = 0
  · subst he
    obtain ⟨o1, o2, o3⟩ := conCheck_ok m con HER.out
    obtain ⟨j, rfl⟩ : ∃ j : Nat, con = (j : Int) := ⟨con.toNat, by omega⟩
    have hjl : j < m.cons.length := by omega
    obtain ⟨c, hc⟩ : ∃ c, m.cons[j]? = some c := ⟨m.cons[j], by simp [hjl]⟩
    have HN : Hid (R = (scopeC c, 0)) := by
      rw [HE.out, if_pos rfl, Int.toNat_natCast, List.getD_eq_getElem?_getD, hc]; rfl
    obtain ⟨hn4, hl4, _, _⟩ := many_not c (con_facts _ _ (con_ok m o1 j c hc)).2.1
    obtain ⟨b, off, vv, vc, vr, vl, ha, hb, f0, f1, f2, f3, f4, f5, hka⟩ := HC.out j c hc
    subst ha
    have e0 := (HB1.out.cell (p := ⟨b, off + j * 6, none⟩) hb).trans f0
    have e1 := (HB1.out.cell (p := ⟨b, off + j * 6 + 1, none⟩) hb).trans f1
    have e2 := (HB1.out.cell (p := ⟨b, off + j * 6 + 2, none⟩) hb).trans f2
    have e3 := (HB1.out.cell (p := ⟨b, off + j * 6 + 3, none⟩) hb).trans f3
    have e4 := (HB1.out.cell (p := ⟨b, off + j * 6 + 4, none⟩) hb).trans f4
    have e5 := (HB1.out.cell (p := ⟨b, off + j * 6 + 5, none⟩) hb).trans f5
    obtain ⟨⟨q1, r1, rfl, hmv, hq1⟩, ⟨q2, r2, rfl, _, _⟩, ⟨q3, r3, rfl, _, _⟩, ⟨q4, r4, rfl, hm4, hq4⟩⟩ := hka
    have HQ1 : Hid (∀ (i : Nat) (z : Int), c.vars[i]? = some z → ∃ b off, q1 = some ⟨b, off, none⟩ ∧ b < w.heap.size ∧ w.cell? ⟨b, off + i, none⟩ = some (.int .i64 z)) := hq1
    have HQ4 : Hid (∀ (i : Nat) (t : MLit), c.lits[i]? = some t → ∃ b off, q4 = some ⟨b, off, none⟩ ∧ b < w.heap.size ∧
      w.cell? ⟨b, off + i * 3, none⟩ = some (.int .i64 t.var) ∧ w.cell? ⟨b, off + i * 3 + 1, none⟩ = some (.int .i64 t.op) ∧ w.cell? ⟨b, off + i * 3 + 2, none⟩ = some (.int .i64 t.n)) := hq4
    unfold maxLen at hm4
    obtain ⟨hm41, hm4⟩ := hm4
    obtain ⟨i0, hi, hz0, hz1, hz2⟩ := info_parts Tryz.infoInt0
    obtain ⟨wm, hrun, hown, hbm⟩ := make_room (c.vars.length + c.lits.length) (by omega) (w1.alloc (.cells #[.int .i64 c.kind, .slice q1 c.vars.length r1, .slice q2 c.consts.length r2, .int .i64 c.n, .slice q3 c.rows.length r3, .slice q4 c.lits.length r4] 73))
    have hcm1 : wm.cell? ⟨w1.heap.size, 1, none⟩ = some (.slice q1 c.vars.length r1) := (hbm.cell (by simp)).trans (by simp)
    have hcm5 : wm.cell? ⟨w1.heap.size, 5, none⟩ = some (.slice q4 c.lits.length r4) := (hbm.cell (by simp)).trans (by simp)
    have hsm : w1.heap.size + 1 ≤ wm.heap.size := by simpa using hbm.size
    have HBM : Hid (Below w.heap.size w wm) := (HB1.out.alloc HB1.out.size _).trans (hbm.mono (by simp; omega))
    rw [show (w1.alloc (.cells #[.int .i64 c.kind, .slice q1 c.vars.length r1, .slice q2 c.consts.length r2, .int .i64 c.n, .slice q3 c.rows.length r3, .slice q4 c.lits.length r4] 73)).heap.size = w1.heap.size + 1 by simp] at hown hrun
    rw [Int.natCast_add] at hrun
    obtain ⟨B, hBe⟩ : ∃ B, B = w1.heap.size + 1 := ⟨_, rfl⟩
    have HOWN : Hid (wm.ownsRow B 3 1 (.slice (some ⟨B, 0, none⟩) 0 (c.vars.length + c.lits.length)) 0 []) := by rw [hBe]; exact hown
    clear hc f0 f1 f2 f3 f4 f5 hb hq1 hq4 hbm hown o1 o2 o3
    have HIV : Hid (IArg wm (.slice q1 c.vars.length r1) c.vars) := IArg.below HBM.out ⟨q1, r1, rfl, hmv, HQ1.out⟩
    rw [← hBe] at hrun
    have hBw : w.heap.size + 2 ≤ B := by omega
    have hB1 : w1.heap.size < B := by omega
    have hBm : B ≤ wm.heap.size := by omega
    clear hBe
    go_wp2_with (at_builtin; refine wpList_append_ints rfl _ _ rfl B _ [] rfl HOWN.out _ c.vars rfl HIV.out (by simp; omega) hBm ?_)
    intro v3 w3 hown3 hg3 hnn3
    have HB3 : Hid (Below w.heap.size w w3) := HBM.out.grown hg3 HBM.out.size (fun k h => by cases h; exact (by omega : w.heap.size ≤ B))
    have hne : some w1.heap.size ≠ some B := fun h => by have := Option.some.inj h; omega
    have hc5 : w3.cell? ⟨w1.heap.size, 5, none⟩ = some (.slice q4 c.lits.length r4) := hg3.cell hcm5 hne
    clear hne
    have hs3 : B ≤ w3.heap.size := Nat.le_trans hBm hg3.size
    have HOWN3 : Hid (w3.ownsRow B 3 1 v3 (accL c 0).length ((accL c 0).map (Value.int .i64))) := by rw [accL_zero]; exact hown3
    have HNN3 : Hid (v3 ≠ .slice none 0 0) := by first | exact hnn3 | exact hnn3 (by simp)
    clear hown3 hg3 hnn3 hcm1 hcm5 hrun HOWN HIV e0 e1 e2 e3 e4 e5 d1
    go_wp2_with fail
    clear hc5
    go_loopw [8, 37] (fun v i wr => ∃ k : Nat, k ≤ c.lits.length ∧ i = .int .i64 k ∧ wr.ownsRow B 3 1 v (accL c k).length ((accL c k).map (Value.int .i64)) ∧ Hid (v ≠ .slice none 0 0) ∧ Below w.heap.size w wr ∧ B ≤ wr.heap.size) (fun _ i _ => c.lits.length - (intOf i).toNat)
    case atStart => exact ⟨0, by omega, rfl, HOWN3.out, HNN3, HB3.out, hs3⟩
    case round =>
      obtain ⟨k, hk, rfl, hown, hnn, hbw, hsw⟩ := hrel
      by_cases hlt : k < c.lits.length
      · obtain ⟨t, ht⟩ : ∃ t, c.lits[k]? = some t := ⟨c.lits[k], by simp [hlt]⟩
        have HAC : Hid (accL c (k + 1) = accL c k ++ [t.var]) := accL_next c k t ht
        have hal : (accL c k).length ≤ 8 := by rw [accL_len c k hk]; omega
        obtain ⟨b4, off4, rfl, hb4, g0, g1, g2⟩ := HQ4.out k t ht
        have k0 := (hbw.cell (p := ⟨b4, off4 + k * 3, none⟩) hb4).trans g0
        have k1 := (hbw.cell (p := ⟨b4, off4 + k * 3 + 1, none⟩) hb4).trans g1
        have k2 := (hbw.cell (p := ⟨b4, off4 + k * 3 + 2, none⟩) hb4).trans g2
        have HOW : Hid (wr.ownsRow B 3 1 u8 (accL c k).length ((accL c k).map (Value.int .i64))) := hown
        have HBW : Hid (Below w.heap.size w wr) := hbw
        obtain ⟨ax, cx, rfl⟩ := own_shape hown
        obtain ⟨acc, hacc⟩ : ∃ acc, accL c k = acc := ⟨_, rfl⟩
        rw [hacc] at HAC hal HOW hnn ⊢
        clear ht g0 g1 g2 hb4 hown hbw hacc
        go_wp2_with (at_builtin; refine wpList_append_ints rfl _ _ rfl B _ acc rfl ((HOW.out.alloc _).alloc _) _ [t.var] rfl (one_arg _ _ _) (by simp; omega) (by simp; omega) ?_)
        intro v4 w4 hown4 hg4 hnn4
        have HO4 : Hid (w4.ownsRow B 3 1 v4 (acc ++ [t.var]).length ((acc ++ [t.var]).map (Value.int .i64))) := by
          show w4.ownsRow _ _ _ _ _ _
          rw [List.length_append, List.map_append]; first | exact hown4 | simpa using hown4
        have HB4 : Hid (Below w.heap.size w w4) := ((HBW.out.alloc HBW.out.size _).alloc (by have := HBW.out.size; simp; omega) _).grown hg4 (by have := HBW.out.size; simp; omega) (fun g h => by have := (HOW.out.lt g h).1; omega)
        have HN4 : Hid (v4 ≠ .slice none 0 0) := by
          have h := hnn.out
          first | exact hnn4 h | (intro h4; simp_all)
        have hs4 : B ≤ w4.heap.size := by have := hg4.size; simp at this; omega
        clear hown4 hg4 hnn4
        go_wp2
        go_roundw
        case rel => exact ⟨k + 1, by omega, by go_num, by rw [HAC.out]; exact HO4.out, HN4, HB4.out, hs4⟩
        case measure => simp [intOf]; omega
      · have hks : k = c.lits.length := by omega
        have HAC : Hid (accL c k = scopeL c) := by show _ = _; rw [hks]; exact accL_all c
        obtain ⟨g, cap, rfl, hg, hcap, hmx⟩ := own_there hown hnn.out
        have HIR : Hid (IRow wr g (scopeL c)) := by rw [← HAC.out]; exact irow_own hown
        have HBW : Hid (Below w.heap.size w wr) := hbw
        rw [HAC.out] at hcap ⊢
        have hn8 : (scopeL c).length ≤ 8 := by unfold scopeL; simp; omega
        clear hown hnn hbw hks
        go_wp2_with fail
        refine (sort_any (scopeL c) g cap w.heap.size _ HIR.out (by omega) (by omega)).mono ?_
        rintro e w5 ⟨rfl, hr5, hb5⟩
        have HR5 : Hid (IRow w5 g (sortI (scopeL c))) := hr5
        have HB5 : Hid (Below w.heap.size w w5) := HBW.out.trans hb5
        clear hr5 hb5
        go_wp2_with fail
        rw [← sortI_len (scopeL c)]
        refine (compact_any (sortI (scopeL c)) g cap w.heap.size _ HR5.out (by omega) (by rw [sortI_len]; omega) (by rw [sortI_len]; exact hcap)).mono ?_
        rintro e w6 ⟨rfl, hr6, hb6⟩
        have HF : Hid (IArg w6 (.slice (some ⟨g, 0, none⟩) (compI (sortI (scopeL c))).length cap) (scopeC c)) := irow_arg hr6 rfl (by have h1 := compI_len (sortI (scopeL c)); rw [sortI_len] at h1; omega) hmx
        have HB6 : Hid (Below w.heap.size w w6) := HB5.out.trans hb6
        clear hr6 hb6
        go_wp2
        go_ret2
        rw [HN.out]
        exact ⟨_, rfl, HF.out, HB6.out⟩
  · have HN : Hid (R = ([], er)) := by rw [HE.out, if_neg he]; rfl
    have he2 : (er != 0) = true := by simpa using he
    clear he
    go_wp2
    go_ret2
    rw [HN.out]
    exact ⟨_, rfl, ⟨none, 0, rfl, ⟨Nat.le_refl _, Nat.zero_le _⟩, fun i z h => by simp at h⟩, HB1.out⟩
end Go.Proofs.YtdjbejlbmaiocagGreatDoor
/-
  PLAIN: what a constraint by itself leaves of a store; that no values are lost; that twice is once; that less leaves less.
-/
namespace Go.Proofs.YtdjbejlbmaiocagGreatDoor

/-- All values that are tried, from a place of the scope on. -/
def reach (s : Sto) : List Int → List Int → List (List Int)
  | [], vals => [vals]
  | v :: r, vals => (s.getD v.toNat []).flatMap fun x => reach s r (vals.set v.toNat x)
def keysOf (scope u : List Int) : List (Int × Int) := scope.map fun v => (v, valAt u v)
/-- What is met, in its order. -/
def metK (c : MCon) (scope : List Int) (us : List (List Int)) : List (Int × Int) := us.flatMap fun u => if holdsC c u then keysOf scope u else []
def zerosOf (n : Nat) : List Int := List.replicate n 0
def metAll (c : MCon) (s : Sto) : List (Int × Int) := metK c (scopeC c) (reach s (scopeC c) (zerosOf s.length))
def staysB (c : MCon) (s : Sto) (k : Nat) (z : Int) : Bool :=
  if failedS s then true
  else if (scopeC c).length = 0 then holdsC c (zerosOf s.length)
  else if hasB (scopeC c) (k : Int) then (metAll c s).contains ((k : Int), z)
  else true
def filterS (c : MCon) (s : Sto) : Sto := siftS s (staysB c s)
def filterA (m : Mod) (con : Int) (s : Sto) : Sto × Int :=
  if checkL m [s] = 0 then (if conCheck m con = 0 then (filterS (m.cons.getD con.toNat noCon) s, 0) else ([], conCheck m con)) else ([], checkL m [s])

theorem mem_comp (zs : List Int) (x : Int) : x ∈ compI zs ↔ x ∈ zs := by
  unfold compI Lib.compact Lib.compactUpTo
  constructor
  · intro h
    obtain ⟨i, hi, rfl⟩ := List.mem_map.1 h
    have hi' : i < zs.length := List.mem_range.1 (List.mem_filter.1 hi).1
    simp [getElem!_pos, hi']
  · intro h
    obtain ⟨i, hi, rfl⟩ := List.mem_iff_getElem.1 h
    have key : ∀ (j : Nat) (hj : j < zs.length), zs[j] ∈ ((List.range zs.length).filter (Lib.keeps zs.toArray)).map (zs.toArray[·]!) := by
      intro j
      induction j with
      | zero =>
        intro hj
        exact List.mem_map.2 ⟨0, List.mem_filter.2 ⟨List.mem_range.2 hj, by simp [Lib.keeps]⟩, by simp [getElem!_pos, hj]⟩
      | succ j ih =>
        intro hj
        by_cases hk : Lib.keeps zs.toArray (j + 1) = true
        · exact List.mem_map.2 ⟨j + 1, List.mem_filter.2 ⟨List.mem_range.2 hj, hk⟩, by simp [getElem!_pos, hj]⟩
        · have he : zs[j + 1] = zs[j] := by
            have h1 : ¬ (j + 1 = 0 ∨ zs.toArray[j + 1]! ≠ zs.toArray[j + 1 - 1]!) := by simpa [Lib.keeps] using hk
            have h2 : zs.toArray[j + 1]! = zs.toArray[j]! := by
              by_cases h3 : zs.toArray[j + 1]! = zs.toArray[j]!
              · exact h3
              · exact absurd (Or.inr h3) h1
            rw [getElem!_pos zs.toArray (j + 1) (by simpa using hj), getElem!_pos zs.toArray j (by simp; omega)] at h2
            simpa using h2
          rw [he]
          exact ih (by omega)
    exact key i hi
theorem mem_scope (c : MCon) (x : Int) : x ∈ scopeC c ↔ x ∈ scopeL c := by
  unfold scopeC
  rw [mem_comp]
  unfold sortI
  exact (List.mergeSort_perm _ _).mem_iff
theorem ownV_same (vars a b : List Int) (h : ∀ v ∈ vars, valAt a v = valAt b v) : ownV vars a = ownV vars b := List.map_congr_left h
theorem litB_same (a b : List Int) (l : MLit) (h : valAt a l.var = valAt b l.var) : litB a l = litB b l := by unfold litB; rw [h]
/-- A constraint speaks of its scope alone. -/
theorem holds_scope (c : MCon) (a b : List Int) (h : ∀ v ∈ scopeC c, valAt a v = valAt b v) (hl : c.kind = 10 → c.lits ≠ []) : holdsC c a = holdsC c b := by
  have h0 : ∀ v ∈ c.vars, valAt a v = valAt b v := fun v hv => h v ((mem_scope c v).2 (List.mem_append_left _ hv))
  have h1 : ∀ l ∈ c.lits, litB a l = litB b l := fun l hl => litB_same a b l (h _ ((mem_scope c _).2 (List.mem_append_right _ (List.mem_map.2 ⟨l, hl, rfl⟩))))
  have h2 := ownV_same c.vars a b h0
  have h3 : c.lits.any (litB a) = c.lits.any (litB b) := by
    rw [Bool.eq_iff_iff, List.any_eq_true, List.any_eq_true]
    exact ⟨fun ⟨l, hm, hq⟩ => ⟨l, hm, by rw [← h1 l hm]; exact hq⟩, fun ⟨l, hm, hq⟩ => ⟨l, hm, by rw [h1 l hm]; exact hq⟩⟩
  by_cases hk : c.kind = 10
  · have h4 : litB a (c.lits.getD 0 ⟨0, 0, 0⟩) = litB b (c.lits.getD 0 ⟨0, 0, 0⟩) := by
      match hc : c.lits with
      | [] => exact absurd hc (hl hk)
      | l :: r => exact h1 l (by rw [hc]; exact List.mem_cons_self ..)
    unfold holdsC
    rw [h2, h3, h4]
  · unfold holdsC
    rw [h2, h3]
    simp only [hk, if_false]

theorem valAt_set_self (vals : List Int) (v x : Int) (h : v.toNat < vals.length) : valAt (vals.set v.toNat x) v = x := by
  unfold valAt; rw [List.getD_eq_getElem?_getD, List.getElem?_set_self h]; rfl
theorem valAt_set_ne (vals : List Int) (v x u : Int) (h : v.toNat ≠ u.toNat) : valAt (vals.set v.toNat x) u = valAt vals u := by
  unfold valAt; rw [List.getD_eq_getElem?_getD, List.getD_eq_getElem?_getD, List.getElem?_set_ne h]

theorem reach_len (s : Sto) : ∀ (r vals u : List Int), u ∈ reach s r vals → u.length = vals.length
  | [], vals, u, h => by simp [reach] at h; rw [h]
  | v :: r, vals, u, h => by
    unfold reach at h
    obtain ⟨x, _, hx⟩ := List.mem_flatMap.1 h
    have := reach_len s r _ u hx
    simpa using this
theorem reach_out (s : Sto) : ∀ (r vals u : List Int), u ∈ reach s r vals → ∀ w : Int, (∀ v ∈ r, v.toNat ≠ w.toNat) → valAt u w = valAt vals w
  | [], vals, u, h, w, _ => by simp [reach] at h; rw [h]
  | v :: r, vals, u, h, w, hw => by
    unfold reach at h
    obtain ⟨x, _, hx⟩ := List.mem_flatMap.1 h
    rw [reach_out s r _ u hx w (fun v' hv => hw v' (List.mem_cons_of_mem _ hv)), valAt_set_ne _ _ _ _ (hw v (List.mem_cons_self ..))]
theorem reach_in (s : Sto) : ∀ (r vals u : List Int), (∀ v ∈ r, v.toNat < vals.length) → u ∈ reach s r vals → ∀ w ∈ r, ∃ v ∈ r, v.toNat = w.toNat ∧ valAt u w ∈ s.getD v.toNat []
  | [], vals, u, _, h, w, hw => by cases hw
  | v :: r, vals, u, hb, h, w, hw => by
    unfold reach at h
    obtain ⟨x, hx0, hx⟩ := List.mem_flatMap.1 h
    by_cases hq : ∃ v' ∈ r, v'.toNat = w.toNat
    · obtain ⟨v', hv', he⟩ := hq
      obtain ⟨v2, hv2, he2, hm⟩ := reach_in s r _ u (fun v'' hv'' => by simpa using hb v'' (List.mem_cons_of_mem _ hv'')) hx v' hv'
      refine ⟨v2, List.mem_cons_of_mem _ hv2, by omega, ?_⟩
      have : valAt u w = valAt u v' := by unfold valAt; rw [he]
      rw [this]; exact hm
    · have hne : ∀ v' ∈ r, v'.toNat ≠ w.toNat := fun v' hv' he => hq ⟨v', hv', he⟩
      have hwv : w = v := by
        rcases List.mem_cons.1 hw with h | h
        · exact h
        · exact absurd rfl (hne w h)
      subst hwv
      refine ⟨w, List.mem_cons_self .., rfl, ?_⟩
      rw [reach_out s r _ u hx w hne, valAt_set_self _ _ _ (hb w (List.mem_cons_self ..))]
      exact hx0
theorem reach_hits (s : Sto) : ∀ (r vals u : List Int), (∀ v ∈ r, v.toNat < vals.length) → u.length = vals.length → (∀ v ∈ r, valAt u v ∈ s.getD v.toNat []) →
    (∀ w : Nat, (∀ v ∈ r, v.toNat ≠ w) → u[w]? = vals[w]?) → u ∈ reach s r vals
  | [], vals, u, _, hl, _, ho => by
    simp only [reach, List.mem_singleton]
    exact List.ext_getElem? fun w => ho w (fun v hv => by cases hv)
  | v :: r, vals, u, hb, hl, hi, ho => by
    unfold reach
    refine List.mem_flatMap.2 ⟨valAt u v, hi v (List.mem_cons_self ..), ?_⟩
    refine reach_hits s r _ u (fun v' hv' => by simpa using hb v' (List.mem_cons_of_mem _ hv')) (by simpa using hl) (fun v' hv' => hi v' (List.mem_cons_of_mem _ hv')) fun w hw => ?_
    by_cases hwv : w = v.toNat
    · subst hwv
      have hlt := hb v (List.mem_cons_self ..)
      rw [List.getElem?_set_self hlt]
      unfold valAt
      rw [List.getD_eq_getElem?_getD]
      rw [List.getElem?_eq_getElem (by omega)]; rfl
    · rw [List.getElem?_set_ne (fun h => hwv h.symm)]
      refine ho w fun v' hv' => ?_
      rcases List.mem_cons.1 hv' with rfl | h
      · exact fun h => hwv h.symm
      · exact hw v' h

/-- Values that agree but for a rest of the scope reach the same. -/
def Agree (r a b : List Int) : Prop := a.length = b.length ∧ ∀ w : Nat, (∀ v ∈ r, v.toNat ≠ w) → a[w]? = b[w]?
theorem Agree.refl (r a : List Int) : Agree r a a := ⟨rfl, fun _ _ => rfl⟩
theorem Agree.trans {r a b c : List Int} (h : Agree r a b) (k : Agree r b c) : Agree r a c := ⟨h.1.trans k.1, fun w hw => (h.2 w hw).trans (k.2 w hw)⟩
theorem Agree.symm {r a b : List Int} (h : Agree r a b) : Agree r b a := ⟨h.1.symm, fun w hw => (h.2 w hw).symm⟩
theorem Agree.cons {r a b : List Int} (v : Int) (h : Agree r a b) : Agree (v :: r) a b := ⟨h.1, fun w hw => h.2 w fun v' hv' => hw v' (List.mem_cons_of_mem _ hv')⟩
theorem Agree.set {r a b : List Int} {v : Int} (x : Int) (h : Agree (v :: r) a b) : Agree r (a.set v.toNat x) (b.set v.toNat x) := by
  refine ⟨by simpa using h.1, fun w hw => ?_⟩
  by_cases hwv : w = v.toNat
  · subst hwv
    by_cases hlt : v.toNat < a.length
    · rw [List.getElem?_set_self hlt, List.getElem?_set_self (by rw [← h.1]; exact hlt)]
    · rw [List.getElem?_eq_none (by simp; omega), List.getElem?_eq_none (by have := h.1; simp; omega)]
  · rw [List.getElem?_set_ne (fun h => hwv h.symm), List.getElem?_set_ne (fun h => hwv h.symm)]
    refine h.2 w fun v' hv' => ?_
    rcases List.mem_cons.1 hv' with rfl | h'
    · exact fun h => hwv h.symm
    · exact hw v' h'
theorem Agree.of_set (r a : List Int) (v x : Int) : Agree (v :: r) a (a.set v.toNat x) := by
  refine ⟨by simp, fun w hw => ?_⟩
  rw [List.getElem?_set_ne (hw v (List.mem_cons_self ..))]
theorem reach_same (s : Sto) : ∀ (r a b : List Int), Agree r a b → reach s r a = reach s r b
  | [], a, b, h => by
    unfold reach
    rw [show a = b from List.ext_getElem? fun w => h.2 w (fun v hv => by cases hv)]
  | v :: r, a, b, h => by
    unfold reach
    congr 1
    funext x
    exact reach_same s r _ _ (h.set x)

/-- A value is part of values of which the constraint holds. -/
def Part (c : MCon) (s : Sto) (k : Nat) (z : Int) : Prop := ∃ u : List Int, u.length = s.length ∧ (∀ v ∈ scopeC c, valAt u v ∈ s.getD v.toNat []) ∧ holdsC c u = true ∧ valAt u (k : Int) = z

theorem mem_metK (c : MCon) (scope : List Int) (us : List (List Int)) (k z : Int) : (k, z) ∈ metK c scope us ↔ ∃ u ∈ us, holdsC c u = true ∧ k ∈ scope ∧ valAt u k = z := by
  unfold metK
  rw [List.mem_flatMap]
  constructor
  · rintro ⟨u, hu, h⟩
    cases hh : holdsC c u
    · rw [hh] at h; simp at h
    · rw [hh, if_pos rfl] at h
      obtain ⟨v, hv, he⟩ := List.mem_map.1 h
      cases he
      exact ⟨u, hu, hh, hv, rfl⟩
  · rintro ⟨u, hu, hh, hv, rfl⟩
    exact ⟨u, hu, by rw [hh, if_pos rfl]; exact List.mem_map.2 ⟨k, hv, rfl⟩⟩

theorem getElem_zeros (n w : Nat) (h : w < n) : (zerosOf n)[w]? = some 0 := by simp [zerosOf, h]
theorem met_iff (c : MCon) (s : Sto) (hsc : ∀ v ∈ scopeC c, 0 ≤ v ∧ v < s.length) (hl : c.kind = 10 → c.lits ≠ []) (k : Nat) (z : Int) (hk : (k : Int) ∈ scopeC c) :
    (metAll c s).contains ((k : Int), z) = true ↔ Part c s k z := by
  rw [List.contains_iff_mem]
  unfold metAll
  rw [mem_metK]
  have hb : ∀ v ∈ scopeC c, v.toNat < (zerosOf s.length).length := fun v hv => by
    have := hsc v hv
    simp only [zerosOf, List.length_replicate]
    omega
  constructor
  · rintro ⟨u, hu, hh, _, hz⟩
    refine ⟨u, by rw [reach_len s _ _ u hu]; simp [zerosOf], fun v hv => ?_, hh, hz⟩
    obtain ⟨v', _, he, hm⟩ := reach_in s _ _ u hb hu v hv
    rw [← he]; exact hm
  · rintro ⟨u, hul, hu, hh, hz⟩
    let u' : List Int := (List.range s.length).map fun (i : Nat) => if (i : Int) ∈ scopeC c then valAt u (i : Int) else 0
    have hu'l : u'.length = s.length := by simp [u']
    have hval : ∀ v ∈ scopeC c, valAt u' v = valAt u v := fun v hv => by
      obtain ⟨h0, h1⟩ := hsc v hv
      obtain ⟨i, rfl⟩ : ∃ i : Nat, v = (i : Int) := ⟨v.toNat, by omega⟩
      have hi : i < s.length := by omega
      unfold valAt
      rw [List.getD_eq_getElem?_getD]
      simp only [u', Int.toNat_natCast, List.getElem?_map, List.getElem?_range hi, Option.map_some, Option.getD_some, if_pos hv]
      rfl
    refine ⟨u', reach_hits s _ _ u' hb (by rw [hu'l]; simp [zerosOf]) (fun v hv => by rw [hval v hv]; exact hu v hv) (fun w hw => ?_), ?_, hk, by rw [hval _ hk]; exact hz⟩
    · by_cases hws : w < s.length
      · rw [getElem_zeros _ _ hws]
        simp only [u', List.getElem?_map, List.getElem?_range hws, Option.map_some]
        rw [if_neg (fun h => hw _ h (by simp))]
      · rw [List.getElem?_eq_none (by omega), List.getElem?_eq_none (by simp [zerosOf]; omega)]
    · rw [holds_scope c u' u hval hl]; exact hh

theorem stays_in (c : MCon) (s : Sto) (hf : failedS s = false) (k : Nat) (z : Int) (hk : (k : Int) ∈ scopeC c) : staysB c s k z = (metAll c s).contains ((k : Int), z) := by
  have hn : (scopeC c).length ≠ 0 := fun h => by rw [List.eq_nil_of_length_eq_zero h] at hk; cases hk
  unfold staysB
  rw [hf, if_neg (by simp), if_neg hn, if_pos ((hasB_iff _ _).2 hk)]
theorem stays_out (c : MCon) (s : Sto) (hn : (scopeC c).length ≠ 0) (k : Nat) (z : Int) (hk : (k : Int) ∉ scopeC c) : staysB c s k z = true := by
  unfold staysB
  cases failedS s
  · rw [if_neg (by simp), if_neg hn, if_neg (fun h => hk ((hasB_iff _ _).1 h))]
  · rfl
theorem stays_none (c : MCon) (s : Sto) (hf : failedS s = false) (hn : (scopeC c).length = 0) (k : Nat) (z : Int) : staysB c s k z = holdsC c (zerosOf s.length) := by
  unfold staysB
  rw [hf, if_neg (by simp), if_pos hn]
theorem stays_failed (c : MCon) (s : Sto) (hf : failedS s = true) (k : Nat) (z : Int) : staysB c s k z = true := by
  unfold staysB; rw [hf, if_pos rfl]
theorem filter_failed (c : MCon) (s : Sto) (hf : failedS s = true) : filterS c s = s := by
  unfold filterS
  refine sto_ext _ _ (siftS_len _ _) fun k r q hr hq => ?_
  obtain ⟨a, ha, rfl⟩ := siftS_back _ _ _ _ hr
  rw [hq] at ha; cases ha
  exact List.filter_eq_self.2 fun z _ => stays_failed c s hf k z
theorem getD_row (s : Sto) (k : Nat) (r : List Int) (h : s[k]? = some r) : s.getD k [] = r := by rw [List.getD_eq_getElem?_getD, h]; rfl

/-- NO VALUES ARE LOST. -/
theorem filter_keeps (c : MCon) (s : Sto) (hsc : ∀ v ∈ scopeC c, 0 ≤ v ∧ v < s.length) (hl : c.kind = 10 → c.lits ≠ []) (vals : List Int) (hv : vals.length = s.length)
    (hin : ∀ (k : Nat) r x, s[k]? = some r → vals[k]? = some x → x ∈ r) (hh : holdsC c vals = true) (k : Nat) (r : List Int) (x : Int) (hr : (filterS c s)[k]? = some r) (hx : vals[k]? = some x) : x ∈ r := by
  obtain ⟨a, ha, rfl⟩ := siftS_back _ _ _ _ hr
  refine List.mem_filter.2 ⟨hin k a x ha hx, ?_⟩
  cases hf : failedS s
  · by_cases hn : (scopeC c).length = 0
    · rw [stays_none c s hf hn, holds_scope c (zerosOf s.length) vals (fun v hv => by rw [List.eq_nil_of_length_eq_zero hn] at hv; cases hv) hl]
      exact hh
    · by_cases hk : (k : Int) ∈ scopeC c
      · rw [stays_in c s hf k x hk, met_iff c s hsc hl k x hk]
        refine ⟨vals, hv, fun v hvs => ?_, hh, valAt_get vals k x hx⟩
        obtain ⟨h0, h1⟩ := hsc v hvs
        obtain ⟨i, rfl⟩ : ∃ i : Nat, v = (i : Int) := ⟨v.toNat, by omega⟩
        have hi : i < s.length := by omega
        have e1 : s[i]? = some s[i] := by simp [hi]
        have e2 : vals[i]? = some (vals[i]'(by omega)) := by simp [show i < vals.length by omega]
        rw [Int.toNat_natCast, getD_row s i _ e1, valAt_get vals i _ e2]
        exact hin i _ _ e1 e2
      · exact stays_out c s hn k x hk
  · exact stays_failed c s hf k x

theorem failed_iff (s : Sto) : failedS s = true ↔ ∃ k : Nat, s[k]? = some [] := by
  unfold failedS
  rw [List.any_eq_true]
  constructor
  · rintro ⟨r, hr, h⟩
    obtain ⟨k, hk⟩ := List.mem_iff_getElem?.1 hr
    have : r = [] := List.eq_nil_of_length_eq_zero (by simpa using h)
    exact ⟨k, by rw [hk, this]⟩
  · rintro ⟨k, hk⟩
    exact ⟨[], List.mem_of_getElem? hk, rfl⟩

/-- FILTERED TWICE IT IS FILTERED ONCE. -/
theorem filter_twice (c : MCon) (s : Sto) (hsc : ∀ v ∈ scopeC c, 0 ≤ v ∧ v < s.length) (hl : c.kind = 10 → c.lits ≠ []) : filterS c (filterS c s) = filterS c s := by
  cases hf : failedS s
  · cases hf2 : failedS (filterS c s)
    · have hlen : (filterS c s).length = s.length := siftS_len _ _
      refine sto_ext _ _ (siftS_len _ _) fun k r q hr hq => ?_
      obtain ⟨a, ha, rfl⟩ := siftS_back _ _ _ _ hr
      rw [hq] at ha; cases ha
      refine List.filter_eq_self.2 fun z hz => ?_
      obtain ⟨b, hb, rfl⟩ := siftS_back _ _ _ _ hq
      obtain ⟨hz1, hz2⟩ := List.mem_filter.1 hz
      by_cases hn : (scopeC c).length = 0
      · rw [stays_none c _ hf2 hn, hlen]
        rw [stays_none c s hf hn] at hz2
        exact hz2
      · by_cases hk : (k : Int) ∈ scopeC c
        · rw [stays_in c s hf k z hk, met_iff c s hsc hl k z hk] at hz2
          rw [stays_in c _ hf2 k z hk, met_iff c _ (by rw [hlen]; exact hsc) hl k z hk]
          obtain ⟨u, hul, hu, hh, huz⟩ := hz2
          refine ⟨u, by rw [hlen]; exact hul, fun v hv => ?_, hh, huz⟩
          obtain ⟨h0, h1⟩ := hsc v hv
          obtain ⟨i, rfl⟩ : ∃ i : Nat, v = (i : Int) := ⟨v.toNat, by omega⟩
          have hi : i < s.length := by omega
          have e1 : s[i]? = some s[i] := by simp [hi]
          have := hu _ hv
          rw [Int.toNat_natCast] at this ⊢
          rw [getD_row s i _ e1] at this
          show _ ∈ (siftS s (staysB c s)).getD i []
          rw [getD_row _ i _ (siftS_get s (staysB c s) i _ e1)]
          refine List.mem_filter.2 ⟨this, ?_⟩
          rw [stays_in c s hf i _ hv, met_iff c s hsc hl i _ hv]
          exact ⟨u, hul, hu, hh, rfl⟩
        · exact stays_out c _ hn k z hk
    · exact filter_failed c _ hf2
  · rw [filter_failed c s hf, filter_failed c s hf]

/-- WHAT IS FILTERED OF LESS IS LESS. -/
theorem filter_less (c : MCon) (s t : Sto) (hlen : t.length = s.length) (hsc : ∀ v ∈ scopeC c, 0 ≤ v ∧ v < s.length) (hl : c.kind = 10 → c.lits ≠ []) (hft : failedS t = false) (hfs : failedS s = false)
    (hw : withinS t s = true) : withinS (filterS c t) (filterS c s) = true := by
  unfold withinS at *
  rw [all_zip] at *
  have hsub : ∀ (i : Nat) r q, t[i]? = some r → s[i]? = some q → ∀ n ∈ r, n ∈ q := fun i r q hr hq => (withinR_iff r q).1 (hw i r q hr hq)
  intro k r q hr hq
  obtain ⟨a, ha, rfl⟩ := siftS_back _ _ _ _ hr
  obtain ⟨b, hb, rfl⟩ := siftS_back _ _ _ _ hq
  refine (withinR_iff _ _).2 fun z hz => ?_
  obtain ⟨hz1, hz2⟩ := List.mem_filter.1 hz
  refine List.mem_filter.2 ⟨hsub k a b ha hb z hz1, ?_⟩
  by_cases hn : (scopeC c).length = 0
  · rw [stays_none c s hfs hn]
    rw [stays_none c t hft hn, hlen] at hz2
    exact hz2
  · by_cases hk : (k : Int) ∈ scopeC c
    · rw [stays_in c t hft k z hk, met_iff c t (by rw [hlen]; exact hsc) hl k z hk] at hz2
      rw [stays_in c s hfs k z hk, met_iff c s hsc hl k z hk]
      obtain ⟨u, hul, hu, hh, huz⟩ := hz2
      refine ⟨u, by rw [hul, hlen], fun v hv => ?_, hh, huz⟩
      obtain ⟨h0, h1⟩ := hsc v hv
      obtain ⟨i, rfl⟩ : ∃ i : Nat, v = (i : Int) := ⟨v.toNat, by omega⟩
      have hi : i < s.length := by omega
      have e1 : s[i]? = some s[i] := by simp [hi]
      have e2 : t[i]? = some (t[i]'(by omega)) := by simp [show i < t.length by omega]
      have := hu _ hv
      rw [Int.toNat_natCast] at this ⊢
      rw [getD_row s i _ e1]
      rw [getD_row t i _ e2] at this
      exact hsub i _ _ e2 e1 _ this
    · exact stays_out c s hn k z hk
/-- What a right model's constraints have. -/
theorem scope_in (m : Mod) (hm : checkM m = 0) (j : Nat) (c : MCon) (hc : m.cons[j]? = some c) : (∀ v ∈ scopeC c, 0 ≤ v ∧ v < (m.vars.length : Int)) ∧ (c.kind = 10 → c.lits ≠ []) := by
  obtain ⟨_, _, hform, hvars, _, _⟩ := con_facts _ _ (con_ok m hm j c hc)
  obtain ⟨h1, h2⟩ := vars_in c _ hvars
  refine ⟨fun v hv => ?_, fun hk => ?_⟩
  · rw [mem_scope] at hv
    unfold scopeL at hv
    rcases List.mem_append.1 hv with h | h
    · exact h1 v h
    · obtain ⟨l, hl, rfl⟩ := List.mem_map.1 h
      exact h2 l hl
  · intro h
    unfold formB at hform
    rw [hk, h] at hform
    simp at hform
end Go.Proofs.YtdjbejlbmaiocagGreatDoor
/-
  PLAIN: the steps of constraints and of clauses; what all together leave.
-/
namespace Go.Proofs.YtdjbejlbmaiocagGreatDoor

def filtS (n : Nat) (c : MCon) (s : Sto) : Sto := if s.length = n then filterS c s else s
theorem filt_eq (n : Nat) (c : MCon) (s : Sto) (h : s.length = n) : filtS n c s = filterS c s := by unfold filtS; rw [if_pos h]
theorem filt_step (n : Nat) (c : MCon) (hsc : ∀ v ∈ scopeC c, 0 ≤ v ∧ v < (n : Int)) (hl : c.kind = 10 → c.lits ≠ []) : StepOk (filtS n c) where
  dec s := by
    unfold filtS
    split
    · exact sub_sift _ _
    · exact SubS.refl _
  row s := by
    unfold filtS
    split
    · exact row_sift _ _
    · exact RowSub.refl _
  mono s t h ht hs := by
    unfold filtS
    by_cases hn : s.length = n
    · have hm : t.length = n := h.1.trans hn
      rw [if_pos hn, if_pos hm]
      refine within_sub (by unfold filterS; rw [siftS_len, siftS_len]; exact h.1) ?_
      exact filter_less c s t h.1 (by rw [hn]; exact hsc) hl ht hs (sub_within h)
    · have hm : t.length ≠ n := fun e => hn (h.1.symm.trans e)
      rw [if_neg hn, if_neg hm]
      exact h
  stay s h := by
    unfold filtS
    split
    · exact filter_failed c s h
    · rfl
def conSteps (m : Mod) : List (Sto → Sto) := m.cons.map fun c => filtS m.vars.length c
def claSteps (l : List Cla) : List (Sto → Sto) := l.map fun c => fun s => unitS s c
def bothSteps (m : Mod) (l : List Cla) : List (Sto → Sto) := claSteps l ++ conSteps m
theorem con_steps (m : Mod) (hm : checkM m = 0) : ∀ f ∈ conSteps m, StepOk f := by
  intro f hf
  obtain ⟨c, hc, rfl⟩ := List.mem_map.1 hf
  obtain ⟨j, hj⟩ := List.mem_iff_getElem?.1 hc
  obtain ⟨h1, h2⟩ := scope_in m hm j c hj
  exact filt_step _ c h1 h2
theorem cla_steps (l : List Cla) : ∀ f ∈ claSteps l, StepOk f := by
  intro f hf
  obtain ⟨c, _, rfl⟩ := List.mem_map.1 hf
  exact unit_step c
theorem both_steps (m : Mod) (l : List Cla) (hm : checkM m = 0) : ∀ f ∈ bothSteps m l, StepOk f := by
  intro f hf
  rcases List.mem_append.1 hf with h | h
  · exact cla_steps l f h
  · exact con_steps m hm f h
theorem checkV_filt (vs : List MVar) (n : Nat) (c : MCon) (s : Sto) (h : checkV vs s = 0) : checkV vs (filtS n c s) = 0 := by
  unfold filtS
  split
  · exact checkV_sift _ _ _ h
  · exact h
theorem con_right (m : Mod) : ∀ f ∈ conSteps m, ∀ u, checkV m.vars u = 0 → checkV m.vars (f u) = 0 := by
  intro f hf u hu
  obtain ⟨c, _, rfl⟩ := List.mem_map.1 hf
  exact checkV_filt _ _ c u hu
theorem cla_right (vs : List MVar) (l : List Cla) : ∀ f ∈ claSteps l, ∀ u, checkV vs u = 0 → checkV vs (f u) = 0 := by
  intro f hf u hu
  obtain ⟨c, _, rfl⟩ := List.mem_map.1 hf
  exact checkV_unit vs u c hu
theorem both_right (m : Mod) (l : List Cla) : ∀ f ∈ bothSteps m l, ∀ u, checkV m.vars u = 0 → checkV m.vars (f u) = 0 := by
  intro f hf
  rcases List.mem_append.1 hf with h | h
  · exact cla_right _ l f h
  · exact con_right m f h
/-- What a call of package fix answers: an error, or the greatest store. -/
def FixR (chk : Int) (fs : List (Sto → Sto)) (vs : List MVar) (s t : Sto) (er : Int) : Prop :=
  (chk ≠ 0 → er = chk ∧ t = []) ∧ (chk = 0 → er = 0 ∧ Greatest fs s t ∧ checkV vs t = 0)
def bothE (m : Mod) (s : Sto) (l : List Cla) : Int := if checkL m [s] = 0 then clasE m.vars l else checkL m [s]
theorem bothE_ok (m : Mod) (s : Sto) (l : List Cla) (h : bothE m s l = 0) : checkL m [s] = 0 ∧ clasE m.vars l = 0 := by
  unfold bothE at h
  split at h
  · rename_i h0; exact ⟨h0, h⟩
  · contradiction
theorem claE_ok (vs : List MVar) (c : Cla) (h : claE vs c = 0) : c.length ≤ 40 ∧ ∀ l ∈ c, litE vs l = 0 := by
  unfold claE at h
  split at h
  · cases h
  · refine ⟨by omega, fun l hl => firstE_all _ h _ (List.mem_map.2 ⟨l, hl, rfl⟩)⟩
theorem clasE_ok (vs : List MVar) (l : List Cla) (h : clasE vs l = 0) : l.length ≤ 600 ∧ ∀ c ∈ l, claE vs c = 0 := by
  unfold clasE at h
  split at h
  · cases h
  · refine ⟨by omega, fun c hc => firstE_all _ h _ (List.mem_map.2 ⟨c, hc, rfl⟩)⟩
theorem claIn_of (vs : List MVar) (s : Sto) (c : Cla) (hs : s.length = vs.length) (h : claE vs c = 0) : ClaIn s c := by
  intro l hl
  have := ((litE_ok vs l).1 ((claE_ok vs c h).2 l hl)).1
  rw [hs]; exact this
/-- NO VALUES OF WHICH ALL OF IT HOLDS ARE LOST. -/
theorem both_keeps (m : Mod) (l : List Cla) (s t : Sto) (hm : checkM m = 0) (hs : checkV m.vars s = 0) (hl : clasE m.vars l = 0) (h : Greatest (bothSteps m l) s t) (vals : List Int) (hv : hasS s vals = true)
    (h1 : ∀ c ∈ m.cons, holdsC c vals = true) (h2 : ∀ c ∈ l, claB c vals = true) : hasS t vals = true := by
  have hlen := ((checkV_ok _ _).1 hs).1
  refine great_keeps h vals hv fun f hf u hu huv => ?_
  rcases List.mem_append.1 hf with hf | hf
  · obtain ⟨c, hc, rfl⟩ := List.mem_map.1 hf
    exact unit_keeps u c (claIn_of m.vars u c (by rw [hu, hlen]) ((clasE_ok _ _ hl).2 c hc)) vals huv (h2 c hc)
  · obtain ⟨c, hc, rfl⟩ := List.mem_map.1 hf
    obtain ⟨j, hj⟩ := List.mem_iff_getElem?.1 hc
    obtain ⟨k1, k2⟩ := scope_in m hm j c hj
    have hul : u.length = m.vars.length := by rw [hu, hlen]
    rw [filt_eq _ c u hul]
    rw [hasS_iff] at huv ⊢
    refine ⟨by rw [← huv.1]; exact siftS_len _ _, fun k r x hr hx => ?_⟩
    exact filter_keeps c u (by rw [hul]; exact k1) k2 vals huv.1.symm huv.2 (h1 c hc) k r x hr hx
end Go.Proofs.YtdjbejlbmaiocagGreatDoor
/-
  PLAIN: what a constraint, or clauses, say by themselves; steps of proofs; that they are sound.
-/
namespace Go.Proofs.YtdjbejlbmaiocagGreatDoor

theorem mem_span (lo hi x : Int) (h1 : lo ≤ x) (h2 : x ≤ hi) : x ∈ spanR lo hi := by
  unfold spanR
  rw [List.mem_map]
  exact ⟨(x - lo).toNat, List.mem_range.2 (by omega), by omega⟩
theorem begin_len (vs : List MVar) : (beginS vs).length = vs.length := by simp [beginS]
/-- Values that may be are had by the store that begins. -/
theorem begin_has (vs : List MVar) (vals : List Int) (hl : vals.length = vs.length) (h : (vs.zip vals).all (fun p => insideV p.1 p.2) = true) : hasS (beginS vs) vals = true := by
  rw [all_zip] at h
  rw [hasS_iff, begin_len]
  refine ⟨hl.symm, fun k r x hr hx => ?_⟩
  unfold beginS at hr
  rw [List.getElem?_map] at hr
  obtain ⟨v, hv, rfl⟩ := Option.map_eq_some_iff.1 hr
  have := h k v x hv hx
  unfold insideV at this
  simp only [Bool.and_eq_true, Bool.not_eq_true', decide_eq_false_iff_not] at this
  exact mem_span _ _ _ (by omega) (by omega)
theorem allA_parts (m : Mod) (vals : List Int) (h : allA m vals = (true, 0)) : checkM m = 0 ∧ hasS (beginS m.vars) vals = true ∧ ∀ c ∈ m.cons, holdsC c vals = true := by
  unfold allA at h
  split at h
  · rename_i h0
    split at h
    · rename_i hl
      have h1 := congrArg Prod.fst h
      simp only [Bool.and_eq_true] at h1
      exact ⟨h0, begin_has m.vars vals hl h1.1, List.all_eq_true.1 h1.2⟩
    · cases h
  · cases h
theorem begin_in (m : Mod) (c : Cla) (hc : claE m.vars c = 0) : ClaIn (beginS m.vars) c := claIn_of m.vars _ c (begin_len _) hc
theorem begin_rises (lo hi : Int) : risesB (spanR lo hi) = true := by
  rw [rises_pair]
  unfold spanR
  rw [List.pairwise_map]
  exact List.pairwise_lt_range.imp fun h => by omega
theorem begin_right (vs : List MVar) : checkV vs (beginS vs) = 0 := by
  rw [checkV_ok]
  refine ⟨begin_len vs, ?_, ?_⟩
  · unfold rangeS
    rw [all_zip]
    intro i v r hv hr
    unfold beginS at hr
    rw [List.getElem?_map, hv] at hr
    cases hr
    rw [List.all_eq_true]
    intro x hx
    unfold spanR at hx
    obtain ⟨k, hk, rfl⟩ := List.mem_map.1 hx
    have := List.mem_range.1 hk
    simp [insideB]
    omega
  · rw [List.all_eq_true]
    intro r hr
    unfold beginS at hr
    obtain ⟨v, _, rfl⟩ := List.mem_map.1 hr
    exact begin_rises _ _

/-- Does a constraint by itself say so? -/
def ConSays (m : Mod) (k : MCon) (c : Cla) : Prop := failedS (denyS (beginS m.vars) c) = true ∨ failedS (filterS k (denyS (beginS m.vars) c)) = true
/-- Do clauses? -/
def UnitSays (m : Mod) (l : List Cla) (c : Cla) : Prop := failedS (denyS (beginS m.vars) c) = true ∨ ∃ t, Greatest (claSteps l) (denyS (beginS m.vars) c) t ∧ failedS t = true

theorem con_sound (m : Mod) (hm : checkM m = 0) (j : Nat) (k : MCon) (hk : m.cons[j]? = some k) (c : Cla) (hc : claE m.vars c = 0) (vals : List Int) (hv : hasS (beginS m.vars) vals = true) (hh : holdsC k vals = true)
    (hs : ConSays m k c) : claB c vals = true := by
  cases hb : claB c vals
  · have hd : hasS (denyS (beginS m.vars) c) vals = true := by rw [deny_has _ _ (begin_in m c hc) _ hv, hb]; rfl
    rcases hs with h | h
    · rw [has_not_failed _ _ hd] at h; cases h
    · obtain ⟨k1, k2⟩ := scope_in m hm j k hk
      have hl : (denyS (beginS m.vars) c).length = m.vars.length := by unfold denyS; rw [siftS_len, begin_len]
      have hd2 := (hasS_iff _ _).1 hd
      have hf : hasS (filterS k (denyS (beginS m.vars) c)) vals = true := by
        rw [hasS_iff]
        refine ⟨by rw [← hd2.1]; exact siftS_len _ _, fun i r x hr hx => ?_⟩
        exact filter_keeps k _ (by rw [hl]; exact k1) k2 vals hd2.1.symm hd2.2 hh i r x hr hx
      rw [has_not_failed _ _ hf] at h; cases h
  · rfl
theorem unit_sound (m : Mod) (l : List Cla) (hl : ∀ d ∈ l, claE m.vars d = 0) (c : Cla) (hc : claE m.vars c = 0) (vals : List Int) (hv : hasS (beginS m.vars) vals = true) (hh : ∀ d ∈ l, claB d vals = true)
    (hs : UnitSays m l c) : claB c vals = true := by
  cases hb : claB c vals
  · have hd : hasS (denyS (beginS m.vars) c) vals = true := by rw [deny_has _ _ (begin_in m c hc) _ hv, hb]; rfl
    rcases hs with h | ⟨t, hg, h⟩
    · rw [has_not_failed _ _ hd] at h; cases h
    · have hlen : (denyS (beginS m.vars) c).length = m.vars.length := by unfold denyS; rw [siftS_len, begin_len]
      have ht : hasS t vals = true := by
        refine great_keeps hg vals hd fun f hf u hu huv => ?_
        obtain ⟨d, hd2, rfl⟩ := List.mem_map.1 hf
        exact unit_keeps u d (claIn_of m.vars u d (by rw [hu, hlen]) (hl d hd2)) vals huv (hh d hd2)
      rw [has_not_failed _ _ ht] at h; cases h
  · rfl

/-- A step of a proof. -/
structure MStep where
  kind : Int
  con : Int
  cla : Cla
/-- All steps are right, behind clauses. -/
def StepsOk (m : Mod) : List Cla → List MStep → Prop
  | _, [] => True
  | l, s :: r => ((s.kind = 1 ∧ ∃ (j : Nat) (k : MCon), s.con = (j : Int) ∧ m.cons[j]? = some k ∧ ConSays m k s.cla) ∨ (s.kind = 2 ∧ UnitSays m l s.cla)) ∧ StepsOk m (l ++ [s.cla]) r
theorem steps_sound (m : Mod) (hm : checkM m = 0) (vals : List Int) (hv : hasS (beginS m.vars) vals = true) (hc : ∀ c ∈ m.cons, holdsC c vals = true) : ∀ (r : List MStep) (l : List Cla), (∀ d ∈ l, claE m.vars d = 0) → (∀ s ∈ r, claE m.vars s.cla = 0) →
    (∀ d ∈ l, claB d vals = true) → StepsOk m l r → ∀ s ∈ r, claB s.cla vals = true
  | [], _, _, _, _, _ => fun s hs => by cases hs
  | s :: r, l, hl, hr, hh, ⟨h1, h2⟩ => by
    have hs : claB s.cla vals = true := by
      rcases h1 with ⟨_, j, k, _, hk, hs⟩ | ⟨_, hs⟩
      · exact con_sound m hm j k hk s.cla (hr s (List.mem_cons_self ..)) vals hv (hc k (List.mem_of_getElem? hk)) hs
      · exact unit_sound m l hl s.cla (hr s (List.mem_cons_self ..)) vals hv hh hs
    have ih := steps_sound m hm vals hv hc r (l ++ [s.cla])
      (fun d hd => by rcases List.mem_append.1 hd with h | h; exact hl d h; rw [List.mem_singleton.1 h]; exact hr s (List.mem_cons_self ..))
      (fun t ht => hr t (List.mem_cons_of_mem _ ht))
      (fun d hd => by rcases List.mem_append.1 hd with h | h; exact hh d h; rw [List.mem_singleton.1 h]; exact hs) h2
    intro t ht
    rcases List.mem_cons.1 ht with rfl | ht
    · exact hs
    · exact ih t ht
/-- WHERE THERE IS A PROOF, NO VALUES ARE SUCH. -/
theorem proof_sound (m : Mod) (given : List Cla) (r : List MStep) (vals : List Int) (ha : allA m vals = (true, 0)) (hg : ∀ d ∈ given, claE m.vars d = 0) (hr : ∀ s ∈ r, claE m.vars s.cla = 0) (hh : ∀ d ∈ given, claB d vals = true)
    (hs : StepsOk m given r) (s : MStep) (hl : s ∈ r) (he : s.cla = []) : False := by
  obtain ⟨h0, h1, h2⟩ := allA_parts m vals ha
  have := steps_sound m h0 vals h1 h2 r given hg hr hh hs s hl
  rw [he] at this
  cases this
end Go.Proofs.YtdjbejlbmaiocagGreatDoor
/-
  PLAIN: values of variables as bits of one number: what a constraint, or clauses, say; steps of proofs; that they are sound.
-/
namespace Go.Proofs.YtdjbejlbmaiocagGreatDoor

/-- What is of a and not of b. -/
def lessN (a b : Nat) : Nat := a ^^^ (a &&& b)
theorem testBit_less (a b i : Nat) : (lessN a b).testBit i = (a.testBit i && !b.testBit i) := by
  unfold lessN
  rw [Nat.testBit_xor, Nat.testBit_and]
  cases a.testBit i <;> cases b.testBit i <;> rfl
theorem less_lt (n a b : Nat) (h : a < 2 ^ n) : lessN a b < 2 ^ n := Nat.xor_lt_two_pow h (Nat.lt_of_le_of_lt Nat.and_le_left h)
theorem less_le (a b : Nat) : lessN a b ≤ a := by
  apply Nat.le_of_testBit
  intro i h
  rw [testBit_less] at h
  simp at h
  exact h.1
theorem bits_andNot_u64 (a b : Nat) (ha : a < 18446744073709551616) (hb : b < 18446744073709551616) : bits .andNot .u64 (a : Int) (b : Int) = ((lessN a b : Nat) : Int) := by
  have h1 : (BitVec.ofInt 64 (a : Int)).toNat = a := by rw [BitVec.ofInt_natCast, BitVec.toNat_ofNat]; exact Nat.mod_eq_of_lt (by omega)
  have h2 : (BitVec.ofInt 64 (b : Int)).toNat = b := by rw [BitVec.ofInt_natCast, BitVec.toNat_ofNat]; exact Nat.mod_eq_of_lt (by omega)
  have key : (BitVec.ofInt 64 (a : Int) &&& ~~~BitVec.ofInt 64 (b : Int)).toNat = lessN a b := by
    apply Nat.eq_of_testBit_eq
    intro i
    rw [testBit_less, BitVec.toNat_and, Nat.testBit_and, h1, BitVec.testBit_toNat, BitVec.getLsbD_not, ← BitVec.testBit_toNat, h2]
    by_cases hi : i < 64
    · simp [hi]
    · have : a.testBit i = false := Nat.testBit_lt_two_pow (Nat.lt_of_lt_of_le ha (by
        have := Nat.pow_le_pow_right (n := 2) (by omega) (show 64 ≤ i by omega)
        simpa using this))
      simp [this]
  show IntKind.u64.wrap ((BitVec.ofInt 64 (a : Int) &&& ~~~BitVec.ofInt 64 (b : Int)).toNat : Int) = _
  rw [key, IntKind.wrap_u64]
  have := less_lt 64 a b (by simpa using ha)
  omega

/-- The bits of some values of a variable, from a place on. -/
def rowP (f : Int → Bool) (b : Nat) (lo : Int) : Nat → Nat
  | 0 => 0
  | k + 1 => if f (lo + (k : Int)) then rowP f b lo k ||| 2 ^ (b + k) else rowP f b lo k
theorem testBit_pow (n i : Nat) : (2 ^ n).testBit i = decide (n = i) := by rw [Nat.testBit_two_pow]
theorem testBit_row (f : Int → Bool) (b : Nat) (lo : Int) : ∀ (k i : Nat), (rowP f b lo k).testBit i = (decide (b ≤ i) && (decide (i < b + k) && f (lo + ((i - b : Nat) : Int))))
  | 0, i => by
    simp only [rowP, Nat.zero_testBit, Nat.add_zero]
    by_cases h : b ≤ i
    · simp [h]; omega
    · simp [h]
  | k + 1, i => by
    unfold rowP
    by_cases hi : i = b + k
    · subst hi
      have e : ((b + k - b : Nat) : Int) = (k : Int) := by omega
      cases hf : f (lo + (k : Int))
      · rw [if_neg (by simp), testBit_row f b lo k]; simp [hf]
      · rw [if_pos rfl, Nat.testBit_or, testBit_pow, testBit_row f b lo k]; simp [hf]
    · have e : decide (i < b + (k + 1)) = decide (i < b + k) := by
        by_cases h : i < b + k
        · simp [h]; omega
        · simp [h]; omega
      rw [e]
      split
      · rw [Nat.testBit_or, testBit_pow, testBit_row f b lo k, show decide (b + k = i) = false by simp; omega, Bool.or_false]
      · exact testBit_row f b lo k i
/-- The six bits of the first variable that has some. -/
def fieldP (p : Nat) : Nat := 63 * 2 ^ (6 * (Lib.ctz 64 p / 6))
theorem testBit_63 (i : Nat) : Nat.testBit 63 i = decide (i < 6) := by
  rw [show (63 : Nat) = 2 ^ 6 - 1 from rfl, Nat.testBit_two_pow_sub_one]
theorem testBit_six (v i : Nat) : (63 * 2 ^ (6 * v)).testBit i = decide (i / 6 = v) := by
  rw [Nat.mul_comm, Nat.testBit_two_pow_mul, testBit_63]
  by_cases h : i / 6 = v
  · subst h; simp; omega
  · simp [h]; omega

def noVar : MVar := ⟨ByteArray.empty, 0, 0⟩
def sizeV (v : MVar) : Nat := (v.hi + 1 - v.lo).toNat
def varAt (vs : List MVar) (v : Nat) : MVar := vs.getD v noVar
/-- The bits of values of the first variables. -/
def ofN (vs : List MVar) (f : Nat → Int → Bool) : Nat → Nat
  | 0 => 0
  | v + 1 => ofN vs f v ||| rowP (f v) (6 * v) (varAt vs v).lo (sizeV (varAt vs v))
def ofP (vs : List MVar) (f : Nat → Int → Bool) : Nat := ofN vs f vs.length
def wholeP (vs : List MVar) : Nat := ofP vs fun _ _ => true
def storedP (vs : List MVar) (s : Sto) : Nat := ofP vs fun v x => hasB (s.getD v []) x
def heldP (vs : List MVar) (c : Cla) : Nat := ofP vs fun v x => oneB c v x
/-- As variables must be. -/
def VarsOk (vs : List MVar) : Prop := vs.length ≤ 6 ∧ ∀ v : Nat, sizeV (varAt vs v) ≤ 6
theorem testBit_of (vs : List MVar) (hv : VarsOk vs) (f : Nat → Int → Bool) : ∀ (n i : Nat), (ofN vs f n).testBit i = (decide (i / 6 < n) && (decide (i % 6 < sizeV (varAt vs (i / 6))) && f (i / 6) ((varAt vs (i / 6)).lo + ((i % 6 : Nat) : Int))))
  | 0, i => by simp [ofN]
  | v + 1, i => by
    have h6 := hv.2 v
    unfold ofN
    rw [Nat.testBit_or, testBit_of vs hv f v i, testBit_row]
    by_cases hi : i / 6 = v
    · subst hi
      have e1 : i - 6 * (i / 6) = i % 6 := by omega
      have e2 : decide (i < 6 * (i / 6) + sizeV (varAt vs (i / 6))) = decide (i % 6 < sizeV (varAt vs (i / 6))) := by
        by_cases h : i % 6 < sizeV (varAt vs (i / 6))
        · simp [h]; omega
        · simp [h]; omega
      rw [e1, e2, show decide (6 * (i / 6) ≤ i) = true by simp; omega]
      simp
    · have e1 : decide (i / 6 < v + 1) = decide (i / 6 < v) := by
        by_cases h : i / 6 < v
        · simp [h]; omega
        · simp [h]; omega
      have e2 : (decide (6 * v ≤ i) && (decide (i < 6 * v + sizeV (varAt vs v)) && f v ((varAt vs v).lo + ((i - 6 * v : Nat) : Int)))) = false := by
        by_cases h : 6 * v ≤ i
        · have : ¬ (i < 6 * v + sizeV (varAt vs v)) := by omega
          simp [this]
        · simp [h]
      rw [e1, e2, Bool.or_false]
theorem ofN_lt (vs : List MVar) (hv : VarsOk vs) (f : Nat → Int → Bool) (n : Nat) (hn : n ≤ 6) : ofN vs f n < 2 ^ 36 := by
  apply Nat.lt_pow_two_of_testBit
  intro i hi
  rw [testBit_of vs hv]
  have : ¬ (i / 6 < n) := by omega
  simp [this]
theorem of_lt (vs : List MVar) (hv : VarsOk vs) (f : Nat → Int → Bool) : ofP vs f < 2 ^ 36 := ofN_lt vs hv f _ hv.1

def lackP (n p : Nat) : Bool := (List.range n).any fun v => p / 2 ^ (v * 6) &&& 63 == 0
def stayP (h p : Nat) : Bool := p &&& h == 0
def saysP (vs : List MVar) (pts : List Nat) (h : Nat) : Bool := lackP vs.length (lessN (wholeP vs) h) || !pts.any (stayP h)
/-- A constraint's points, from a place of its scope on. -/
def pointsN (vs : List MVar) (c : MCon) : List Int → List Int → Nat → List Nat
  | [], vals, a => if holdsC c vals then [a] else []
  | v :: r, vals, a => (spanR (varAt vs v.toNat).lo (varAt vs v.toNat).hi).flatMap fun x => pointsN vs c r (vals.set v.toNat x) (a ||| 2 ^ (6 * v.toNat + (x - (varAt vs v.toNat).lo).toNat))
def pointsP (vs : List MVar) (c : MCon) : List Nat := pointsN vs c (scopeC c) (zerosOf vs.length) 0
/-- Once through clauses: none, if one takes all. -/
def roundP : List Nat → Nat → Option Nat
  | [], left => some left
  | c :: r, left =>
    if left &&& c = 0 then none
    else if lessN (left &&& c) (fieldP (left &&& c)) = 0 then roundP r (lessN left (lessN (fieldP (left &&& c)) (left &&& c))) else roundP r left
def unitsN (cs : List Nat) : Nat → Nat → Nat
  | 0, left => left
  | f + 1, left => match roundP cs left with
    | none => 0
    | some l => if l = left then left else unitsN cs f l
/-- What clauses leave of values. -/
def unitsP (vs : List MVar) (cs : List Nat) (p : Nat) : Nat := if lackP vs.length p then 0 else unitsN cs (p + 1) p
def failsP (vs : List MVar) (cs : List Nat) (h : Nat) : Bool := unitsP vs cs (lessN (wholeP vs) h) == 0

theorem round_le : ∀ (cs : List Nat) (left l : Nat), roundP cs left = some l → l ≤ left
  | [], left, l, h => by simp [roundP] at h; omega
  | c :: r, left, l, h => by
    unfold roundP at h
    split at h
    · cases h
    · split at h
      · exact Nat.le_trans (round_le r _ l h) (less_le _ _)
      · exact round_le r _ l h
theorem units_fuel (cs : List Nat) : ∀ (f g left : Nat), left < f → left < g → unitsN cs f left = unitsN cs g left
  | 0, g, left, hf, hg => by omega
  | f + 1, 0, left, hf, hg => by omega
  | f + 1, g + 1, left, hf, hg => by
    unfold unitsN
    cases hr : roundP cs left with
    | none => rfl
    | some l =>
      simp only
      split
      · rfl
      · have := round_le cs left l hr
        exact units_fuel cs f g l (by omega) (by omega)
theorem units_step (cs : List Nat) (left : Nat) : unitsN cs (left + 1) left = match roundP cs left with
    | none => 0
    | some l => if l = left then left else unitsN cs (l + 1) l := by
  conv => lhs; unfold unitsN
  cases hr : roundP cs left with
  | none => rfl
  | some l =>
    simp only
    split
    · rfl
    · have := round_le cs left l hr
      exact units_fuel cs _ _ l (by omega) (by omega)
theorem unitsN_le (cs : List Nat) : ∀ (f left : Nat), unitsN cs f left ≤ left
  | 0, left => Nat.le_refl _
  | f + 1, left => by
    unfold unitsN
    cases hr : roundP cs left with
    | none => simp
    | some l =>
      simp only
      split
      · exact Nat.le_refl _
      · exact Nat.le_trans (unitsN_le cs f l) (round_le cs left l hr)
theorem units_le (vs : List MVar) (cs : List Nat) (p : Nat) : unitsP vs cs p ≤ p := by
  unfold unitsP
  split
  · exact Nat.zero_le _
  · exact unitsN_le cs _ _

/-- Where a value of a variable has its bit. -/
def posV (vs : List MVar) (vals : List Int) (v : Nat) : Nat := 6 * v + (valAt vals (v : Int) - (varAt vs v).lo).toNat
/-- Values that may be. -/
def MayBe (vs : List MVar) (vals : List Int) : Prop := vals.length = vs.length ∧ ∀ v : Nat, v < vs.length → (varAt vs v).lo ≤ valAt vals (v : Int) ∧ valAt vals (v : Int) ≤ (varAt vs v).hi
theorem maybe_of (vs : List MVar) (vals : List Int) (h : hasS (beginS vs) vals = true) : MayBe vs vals := by
  obtain ⟨h1, h2⟩ := (hasS_iff _ _).1 h
  have hl : vals.length = vs.length := by rw [← h1]; simp [beginS]
  refine ⟨hl, fun v hv => ?_⟩
  have e1 : (beginS vs)[v]? = some (spanR (varAt vs v).lo (varAt vs v).hi) := by simp [beginS, varAt, hv, List.getD_eq_getElem?_getD]
  have e2 : vals[v]? = some (valAt vals (v : Int)) := by
    unfold valAt
    rw [Int.toNat_natCast, List.getD_eq_getElem?_getD, List.getElem?_eq_getElem (by omega)]; rfl
  have h3 := h2 v _ _ e1 e2
  unfold spanR at h3
  obtain ⟨k, hk, he⟩ := List.mem_map.1 h3
  have := List.mem_range.1 hk
  omega
theorem pos_parts (vs : List MVar) (hv : VarsOk vs) (vals : List Int) (hm : MayBe vs vals) (v : Nat) (h : v < vs.length) : posV vs vals v / 6 = v ∧ posV vs vals v % 6 < sizeV (varAt vs v) ∧ (varAt vs v).lo + ((posV vs vals v % 6 : Nat) : Int) = valAt vals (v : Int) := by
  have h1 := hm.2 v h
  have h2 := hv.2 v
  have h3 : posV vs vals v = 6 * v + (valAt vals (v : Int) - (varAt vs v).lo).toNat := rfl
  unfold sizeV at h2 ⊢
  omega
theorem bit_of (vs : List MVar) (hv : VarsOk vs) (vals : List Int) (hm : MayBe vs vals) (f : Nat → Int → Bool) (v : Nat) (h : v < vs.length) : (ofP vs f).testBit (posV vs vals v) = f v (valAt vals (v : Int)) := by
  obtain ⟨p1, p2, p3⟩ := pos_parts vs hv vals hm v h
  unfold ofP
  rw [testBit_of vs hv, p1, p3]
  simp [h, p2]
theorem held_claB (vs : List MVar) (c : Cla) (vals : List Int) (hc : ∀ l ∈ c, 0 ≤ l.var ∧ l.var < (vs.length : Int)) : claB c vals = true ↔ ∃ v : Nat, v < vs.length ∧ oneB c v (valAt vals (v : Int)) = true := by
  rw [claB_iff]
  constructor
  · rintro ⟨l, hl, h⟩
    have := hc l hl
    refine ⟨l.var.toNat, by omega, (oneB_iff _ _ _).2 ⟨l, hl, by omega, ?_⟩⟩
    unfold valAt
    rw [Int.toNat_natCast]; exact h
  · rintro ⟨v, _, h⟩
    obtain ⟨l, hl, he, h⟩ := (oneB_iff _ _ _).1 h
    refine ⟨l, hl, ?_⟩
    rw [he]; exact h
/-- Values hit a part: one of them is of it. -/
def Hits (vs : List MVar) (vals : List Int) (p : Nat) : Prop := ∃ v : Nat, v < vs.length ∧ p.testBit (posV vs vals v) = true
theorem held_hits (vs : List MVar) (hv : VarsOk vs) (vals : List Int) (hm : MayBe vs vals) (c : Cla) (hc : ∀ l ∈ c, 0 ≤ l.var ∧ l.var < (vs.length : Int)) : Hits vs vals (heldP vs c) ↔ claB c vals = true := by
  rw [held_claB vs c vals hc]
  constructor
  · rintro ⟨v, h, hb⟩
    unfold heldP at hb
    rw [bit_of vs hv vals hm _ v h] at hb
    exact ⟨v, h, hb⟩
  · rintro ⟨v, h, hb⟩
    refine ⟨v, h, ?_⟩
    unfold heldP
    rw [bit_of vs hv vals hm _ v h]
    exact hb
theorem lack_not (n p : Nat) (h : ∀ v, v < n → ∃ k, k < 6 ∧ p.testBit (6 * v + k) = true) : lackP n p = false := by
  cases hl : lackP n p
  · rfl
  · unfold lackP at hl
    obtain ⟨v, hv, hb⟩ := List.any_eq_true.1 hl
    obtain ⟨k, hk, hp⟩ := h v (List.mem_range.1 hv)
    have h0 : p / 2 ^ (v * 6) &&& 63 = 0 := by simpa using hb
    have := congrArg (fun q => Nat.testBit q k) h0
    simp only [Nat.testBit_and, testBit_63, Nat.testBit_div_two_pow, Nat.zero_testBit] at this
    rw [show k + v * 6 = 6 * v + k by omega, hp] at this
    simp [hk] at this
/-- All values are of a part. -/
def Within (vs : List MVar) (vals : List Int) (p : Nat) : Prop := ∀ v : Nat, v < vs.length → p.testBit (posV vs vals v) = true
theorem within_lack (vs : List MVar) (hv : VarsOk vs) (vals : List Int) (hm : MayBe vs vals) (p : Nat) (h : Within vs vals p) : lackP vs.length p = false := by
  refine lack_not _ _ fun v hl => ⟨posV vs vals v % 6, by omega, ?_⟩
  have := (pos_parts vs hv vals hm v hl).1
  have h2 := h v hl
  rw [show 6 * v + posV vs vals v % 6 = posV vs vals v by omega]
  exact h2
theorem within_rest (vs : List MVar) (hv : VarsOk vs) (vals : List Int) (hm : MayBe vs vals) (h : Nat) (hh : ¬ Hits vs vals h) : Within vs vals (lessN (wholeP vs) h) := by
  intro v hl
  rw [testBit_less]
  unfold wholeP
  rw [bit_of vs hv vals hm _ v hl]
  cases hb : h.testBit (posV vs vals v)
  · rfl
  · exact absurd ⟨v, hl, hb⟩ hh

theorem points_have (vs : List MVar) (c : MCon) (vals : List Int) (hm : MayBe vs vals) : ∀ (r u : List Int) (a : Nat), (∀ v ∈ r, 0 ≤ v ∧ v < (vs.length : Int)) → u.length = vs.length →
    (∀ u' : List Int, u'.length = vs.length → (∀ v ∈ r, valAt u' v = valAt vals v) → (∀ w : Int, (∀ v ∈ r, v.toNat ≠ w.toNat) → valAt u' w = valAt u w) → holdsC c u' = true) →
    ∃ p ∈ pointsN vs c r u a, ∀ i, p.testBit i = true → a.testBit i = true ∨ ∃ v : Nat, v < vs.length ∧ i = posV vs vals v
  | [], u, a, _, hu, hh => by
    have h := hh u hu (fun v hv => by cases hv) (fun _ _ => rfl)
    refine ⟨a, ?_, fun i hi => Or.inl hi⟩
    unfold pointsN
    rw [if_pos h]
    exact List.mem_singleton.2 rfl
  | v :: r, u, a, hr, hu, hh => by
    obtain ⟨v0, v1⟩ := hr v (List.mem_cons_self ..)
    have hvn : v.toNat < vs.length := by omega
    have hmv := hm.2 v.toNat hvn
    rw [show ((v.toNat : Nat) : Int) = v by omega] at hmv
    obtain ⟨p, hp, hb⟩ := points_have vs c vals hm r (u.set v.toNat (valAt vals v)) (a ||| 2 ^ (6 * v.toNat + (valAt vals v - (varAt vs v.toNat).lo).toNat)) (fun x hx => hr x (List.mem_cons_of_mem _ hx)) (by simpa using hu) (by
      intro u' h1 h2 h3
      refine hh u' h1 (fun x hx => ?_) (fun w hw => ?_)
      · rcases List.mem_cons.1 hx with rfl | hx
        · by_cases hq : ∃ y ∈ r, y.toNat = x.toNat
          · obtain ⟨y, hy, he⟩ := hq
            have := hr y (List.mem_cons_of_mem _ hy)
            have : y = x := by omega
            rw [← this]; exact h2 y hy
          · rw [h3 x (fun y hy he => hq ⟨y, hy, he⟩), valAt_set_self _ _ _ (by omega)]
        · exact h2 x hx
      · rw [h3 w (fun y hy => hw y (List.mem_cons_of_mem _ hy)), valAt_set_ne _ _ _ _ (hw v (List.mem_cons_self ..))])
    refine ⟨p, ?_, fun i hi => ?_⟩
    · unfold pointsN
      exact List.mem_flatMap.2 ⟨valAt vals v, mem_span _ _ _ hmv.1 hmv.2, hp⟩
    · rcases hb i hi with h | h
      · rw [Nat.testBit_or, Bool.or_eq_true] at h
        rcases h with h | h
        · exact Or.inl h
        · rw [testBit_pow] at h
          refine Or.inr ⟨v.toNat, hvn, ?_⟩
          unfold posV
          rw [show ((v.toNat : Nat) : Int) = v by omega]
          exact (of_decide_eq_true h).symm
      · exact Or.inr h
/-- WHAT A CONSTRAINT SAYS HOLDS WHERE IT DOES. -/
theorem says_hits (vs : List MVar) (hv : VarsOk vs) (c : MCon) (hsc : ∀ v ∈ scopeC c, 0 ≤ v ∧ v < (vs.length : Int)) (hl : c.kind = 10 → c.lits ≠ []) (h : Nat) (hs : saysP vs (pointsP vs c) h = true)
    (vals : List Int) (hm : MayBe vs vals) (hh : holdsC c vals = true) : Hits vs vals h := by
  apply Classical.byContradiction
  intro hn
  have hw := within_rest vs hv vals hm h hn
  unfold saysP at hs
  rw [within_lack vs hv vals hm _ hw, Bool.false_or] at hs
  obtain ⟨p, hp, hb⟩ := points_have vs c vals hm (scopeC c) (zerosOf vs.length) 0 hsc (by simp [zerosOf]) (fun u' _ h2 _ => by rw [holds_scope c u' vals h2 hl]; exact hh)
  have : (pointsP vs c).any (stayP h) = true := by
    refine List.any_eq_true.2 ⟨p, hp, ?_⟩
    unfold stayP
    have : p &&& h = 0 := by
      apply Nat.eq_of_testBit_eq
      intro i
      rw [Nat.testBit_and, Nat.zero_testBit]
      cases hpi : p.testBit i
      · rfl
      · rcases hb i hpi with h0 | ⟨v, hvl, rfl⟩
        · simp at h0
        · cases hhi : h.testBit (posV vs vals v)
          · rfl
          · exact absurd ⟨v, hvl, hhi⟩ hn
    simp [this]
  rw [this] at hs
  cases hs
theorem field_bit (p i : Nat) (h : lessN p (fieldP p) = 0) (hi : p.testBit i = true) : (fieldP p).testBit i = true := by
  have := congrArg (fun q => Nat.testBit q i) h
  simp only [testBit_less, hi, Nat.zero_testBit] at this
  simpa using this
theorem round_keeps (vs : List MVar) (hv : VarsOk vs) (vals : List Int) (hm : MayBe vs vals) : ∀ (cs : List Nat) (left : Nat), (∀ c ∈ cs, Hits vs vals c) → Within vs vals left → ∃ l, roundP cs left = some l ∧ Within vs vals l
  | [], left, _, hw => ⟨left, rfl, hw⟩
  | c :: r, left, hc, hw => by
    obtain ⟨v, hvl, hb⟩ := hc c (List.mem_cons_self ..)
    have ho : (left &&& c).testBit (posV vs vals v) = true := by rw [Nat.testBit_and, hw v hvl, hb]; rfl
    have hne : left &&& c ≠ 0 := fun h => by rw [h] at ho; simp at ho
    unfold roundP
    rw [if_neg hne]
    split
    · rename_i hf
      refine round_keeps vs hv vals hm r _ (fun d hd => hc d (List.mem_cons_of_mem _ hd)) fun u hu => ?_
      rw [testBit_less, hw u hu, testBit_less]
      by_cases huv : u = v
      · subst huv; rw [ho]; simp
      · have hfv := field_bit _ _ hf ho
        have : (fieldP (left &&& c)).testBit (posV vs vals u) = false := by
          unfold fieldP at hfv ⊢
          rw [testBit_six] at hfv ⊢
          rw [(pos_parts vs hv vals hm v hvl).1] at hfv
          rw [(pos_parts vs hv vals hm u hu).1]
          have : v = Lib.ctz 64 (left &&& c) / 6 := by simpa using hfv
          simp; omega
        rw [this]; simp
    · exact round_keeps vs hv vals hm r _ (fun d hd => hc d (List.mem_cons_of_mem _ hd)) hw
theorem unitsN_keeps (vs : List MVar) (hv : VarsOk vs) (vals : List Int) (hm : MayBe vs vals) (cs : List Nat) (hc : ∀ c ∈ cs, Hits vs vals c) : ∀ (f left : Nat), Within vs vals left → Within vs vals (unitsN cs f left)
  | 0, left, hw => hw
  | f + 1, left, hw => by
    obtain ⟨l, hl, hw2⟩ := round_keeps vs hv vals hm cs left hc hw
    unfold unitsN
    rw [hl]
    simp only
    split
    · exact hw
    · exact unitsN_keeps vs hv vals hm cs hc f l hw2
theorem units_keeps (vs : List MVar) (hv : VarsOk vs) (vals : List Int) (hm : MayBe vs vals) (cs : List Nat) (hc : ∀ c ∈ cs, Hits vs vals c) (p : Nat) (hw : Within vs vals p) : Within vs vals (unitsP vs cs p) := by
  unfold unitsP
  rw [within_lack vs hv vals hm _ hw]
  exact unitsN_keeps vs hv vals hm cs hc _ _ hw
theorem within_ne (vs : List MVar) (h1 : 1 ≤ vs.length) (vals : List Int) (p : Nat) (hw : Within vs vals p) : p ≠ 0 := by
  intro h0
  have := hw 0 (by omega)
  rw [h0, Nat.zero_testBit] at this
  cases this
/-- WHAT CLAUSES SAY HOLDS WHERE THEY DO. -/
theorem fails_hits (vs : List MVar) (hv : VarsOk vs) (h1 : 1 ≤ vs.length) (cs : List Nat) (h : Nat) (hs : failsP vs cs h = true) (vals : List Int) (hm : MayBe vs vals) (hc : ∀ c ∈ cs, Hits vs vals c) : Hits vs vals h := by
  apply Classical.byContradiction
  intro hn
  have hw := within_rest vs hv vals hm h hn
  unfold failsP at hs
  exact within_ne vs h1 vals _ (units_keeps vs hv vals hm cs hc _ hw) (by simpa using hs)

/-- Is a step right behind clauses? -/
def rightP (m : Mod) (ahead : List Nat) (s : MStep) : Bool :=
  if s.kind = 1 then saysP m.vars (pointsP m.vars (m.cons.getD s.con.toNat noCon)) (heldP m.vars s.cla)
  else if s.kind = 2 ∧ s.con = 0 then failsP m.vars ahead (heldP m.vars s.cla) else false
def stepsP (m : Mod) : List Nat → List MStep → Bool
  | _, [] => true
  | ahead, s :: r => rightP m ahead s && stepsP m (ahead ++ [heldP m.vars s.cla]) r
theorem vars_okP (m : Mod) (hm : checkM m = 0) : VarsOk m.vars := by
  refine ⟨(checkM_vars m hm).2.1, fun v => ?_⟩
  by_cases h : v < m.vars.length
  · have e : m.vars[v]? = some (varAt m.vars v) := by unfold varAt; rw [List.getD_eq_getElem?_getD, List.getElem?_eq_getElem h]; rfl
    have := var_ok m hm v _ e
    unfold sizeV
    omega
  · unfold varAt
    rw [List.getD_eq_getElem?_getD, List.getElem?_eq_none (by omega)]
    decide
theorem vars_one (m : Mod) (hm : checkM m = 0) : 1 ≤ m.vars.length := by
  have := (checkM_vars m hm).1
  omega
theorem steps_hits (m : Mod) (hm : checkM m = 0) (vals : List Int) (hv : MayBe m.vars vals) (hc : ∀ c ∈ m.cons, holdsC c vals = true) : ∀ (r : List MStep) (ahead : List Nat), (∀ s ∈ r, s.kind = 1 → 0 ≤ s.con ∧ s.con < (m.cons.length : Int)) →
    (∀ c ∈ ahead, Hits m.vars vals c) → stepsP m ahead r = true → ∀ s ∈ r, Hits m.vars vals (heldP m.vars s.cla)
  | [], _, _, _, _ => fun s hs => by cases hs
  | s :: r, ahead, hk, ha, h => by
    unfold stepsP at h
    rw [Bool.and_eq_true] at h
    have hs : Hits m.vars vals (heldP m.vars s.cla) := by
      have h1 := h.1
      unfold rightP at h1
      split at h1
      · rename_i hk1
        obtain ⟨c0, c1⟩ := hk s (List.mem_cons_self ..) hk1
        have hj : s.con.toNat < m.cons.length := by omega
        have e : m.cons[s.con.toNat]? = some (m.cons.getD s.con.toNat noCon) := by rw [List.getD_eq_getElem?_getD, List.getElem?_eq_getElem hj]; rfl
        obtain ⟨k1, k2⟩ := scope_in m hm _ _ e
        exact says_hits m.vars (vars_okP m hm) _ k1 k2 _ h1 vals hv (hc _ (List.mem_of_getElem? e))
      · split at h1
        · exact fails_hits m.vars (vars_okP m hm) (vars_one m hm) ahead _ h1 vals hv ha
        · cases h1
    intro t ht
    rcases List.mem_cons.1 ht with rfl | ht
    · exact hs
    · refine steps_hits m hm vals hv hc r _ (fun x hx => hk x (List.mem_cons_of_mem _ hx)) (fun c hcm => ?_) h.2 t ht
      rcases List.mem_append.1 hcm with hx | hx
      · exact ha c hx
      · rw [List.mem_singleton.1 hx]; exact hs
theorem cla_vars (m : Mod) (c : Cla) (h : claE m.vars c = 0) : ∀ l ∈ c, 0 ≤ l.var ∧ l.var < (m.vars.length : Int) := by
  have h1 := begin_in m c h
  intro l hl
  have := h1 l hl
  rw [begin_len] at this
  exact this
/-- WHERE THERE IS A PROOF, NO VALUES ARE SUCH. -/
theorem proof_none (m : Mod) (given : List Cla) (r : List MStep) (vals : List Int) (ha : allA m vals = (true, 0)) (hg : ∀ d ∈ given, claE m.vars d = 0) (hr : ∀ s ∈ r, claE m.vars s.cla = 0)
    (hk : ∀ s ∈ r, s.kind = 1 → 0 ≤ s.con ∧ s.con < (m.cons.length : Int)) (hh : ∀ d ∈ given, claB d vals = true) (hs : stepsP m (given.map (heldP m.vars)) r = true) (s : MStep) (hl : s ∈ r) (he : s.cla = []) : False := by
  obtain ⟨h0, h1, h2⟩ := allA_parts m vals ha
  have hm := maybe_of m.vars vals h1
  have hv := vars_okP m h0
  have := steps_hits m h0 vals hm h2 r _ hk (fun c hc => by
    obtain ⟨d, hd, rfl⟩ := List.mem_map.1 hc
    exact (held_hits m.vars hv vals hm d (cla_vars m d (hg d hd))).2 (hh d hd)) hs s hl
  rw [held_hits m.vars hv vals hm _ (cla_vars m _ (hr s hl)), he] at this
  cases this
/-- What a constraint says by itself holds where it does. -/
theorem con_holds (m : Mod) (j : Nat) (k : MCon) (hk : m.cons[j]? = some k) (c : Cla) (hc : claE m.vars c = 0) (vals : List Int) (ha : allA m vals = (true, 0)) (hs : saysP m.vars (pointsP m.vars k) (heldP m.vars c) = true) : claB c vals = true := by
  obtain ⟨h0, h1, h2⟩ := allA_parts m vals ha
  have hm := maybe_of m.vars vals h1
  have hv := vars_okP m h0
  obtain ⟨k1, k2⟩ := scope_in m h0 j k hk
  exact (held_hits m.vars hv vals hm c (cla_vars m c hc)).1 (says_hits m.vars hv k k1 k2 _ hs vals hm (h2 k (List.mem_of_getElem? hk)))
end Go.Proofs.YtdjbejlbmaiocagGreatDoor
/-
  PLAIN: reasons: the bits of a part, what can be spared of it; that a reason holds where the constraint does.
-/
namespace Go.Proofs.YtdjbejlbmaiocagGreatDoor

/-- The bits of a part, from the least on. -/
def bitsL (p : Nat) : List Nat := (List.range 36).filter fun i => p.testBit i
theorem low_form (x : Nat) (h0 : x ≠ 0) (h : x < 2 ^ 64) : ∃ m, x = 2 ^ (Lib.ctz 64 x + 1) * m + 2 ^ Lib.ctz 64 x ∧ Lib.ctz 64 x < 64 := by
  obtain ⟨m, h1, h2⟩ := Lib.ctzFrom_spec 64 x (by omega) h
  have e : Lib.ctz 64 x = Lib.ctzFrom 64 x := by unfold Lib.ctz; rw [if_neg h0]
  rw [e]
  refine ⟨m, ?_, h2⟩
  conv => lhs; rw [h1]
  rw [Nat.pow_succ, Nat.mul_add, Nat.mul_one, Nat.mul_assoc]
theorem low_bits (x : Nat) (h0 : x ≠ 0) (h : x < 2 ^ 64) (i : Nat) : (i < Lib.ctz 64 x → x.testBit i = false) ∧ (i = Lib.ctz 64 x → x.testBit i = true) ∧ (x &&& (x - 1)).testBit i = (x.testBit i && !decide (i = Lib.ctz 64 x)) := by
  obtain ⟨m, h1, _⟩ := low_form x h0 h
  generalize hk : Lib.ctz 64 x = k at h1
  have hp : 0 < 2 ^ k := Nat.pow_pos (by omega)
  have hlt : 2 ^ k < 2 ^ (k + 1) := by rw [Nat.pow_succ]; omega
  have h2 : x - 1 = 2 ^ (k + 1) * m + (2 ^ k - 1) := by omega
  have t1 : x.testBit i = if i < k + 1 then decide (k = i) else m.testBit (i - (k + 1)) := by
    rw [h1, Nat.testBit_two_pow_mul_add _ hlt]
    split
    · exact testBit_pow k i
    · rfl
  have t2 : (x - 1).testBit i = if i < k + 1 then decide (i < k) else m.testBit (i - (k + 1)) := by
    rw [h2, Nat.testBit_two_pow_mul_add _ (by omega)]
    split
    · exact Nat.testBit_two_pow_sub_one ..
    · rfl
  refine ⟨fun hi => ?_, fun hi => ?_, ?_⟩
  · rw [t1, if_pos (by omega)]; simp; omega
  · rw [t1, if_pos (by omega)]; simp; omega
  · rw [Nat.testBit_and, t1, t2]
    by_cases hi : i < k + 1
    · rw [if_pos hi, if_pos hi]
      by_cases he : k = i
      · subst he; simp
      · simp [he]
    · rw [if_neg hi, if_neg hi, show decide (i = k) = false by simp; omega]; simp
theorem low_less (x : Nat) (h0 : x ≠ 0) (h : x < 2 ^ 64) : x &&& (x - 1) < x := by
  have h1 := low_bits x h0 h
  have hle : x &&& (x - 1) ≤ x := Nat.and_le_left
  have : x &&& (x - 1) ≠ x := fun he => by
    have h2 := (h1 (Lib.ctz 64 x)).2.2
    rw [he, (h1 (Lib.ctz 64 x)).2.1 rfl] at h2
    simp at h2
  omega
theorem bitsL_zero : bitsL 0 = [] := by simp [bitsL]
theorem bitsL_step (x : Nat) (h0 : x ≠ 0) (h : x < 2 ^ 36) : bitsL x = Lib.ctz 64 x :: bitsL (x &&& (x - 1)) ∧ Lib.ctz 64 x < 36 := by
  have h64 : x < 2 ^ 64 := Nat.lt_of_lt_of_le h (Nat.pow_le_pow_right (by omega) (by omega))
  have hb := low_bits x h0 h64
  have hk : Lib.ctz 64 x < 36 := by
    apply Classical.byContradiction
    intro hn
    have h1 := (hb (Lib.ctz 64 x)).2.1 rfl
    rw [Nat.testBit_lt_two_pow (Nat.lt_of_lt_of_le h (Nat.pow_le_pow_right (by omega) (by omega)))] at h1
    cases h1
  refine ⟨?_, hk⟩
  generalize hc : Lib.ctz 64 x = k at *
  unfold bitsL
  have hs : List.range 36 = List.range k ++ (k :: (List.range (36 - (k + 1))).map (· + (k + 1))) := by
    have h1 : List.range 36 = List.range ((k + 1) + (36 - (k + 1))) := by congr 1; omega
    rw [h1, List.range_add, List.range_succ, List.append_assoc]
    congr 1
    simp only [List.singleton_append, List.cons.injEq, true_and]
    apply List.map_congr_left
    intro a _
    omega
  rw [hs, List.filter_append, List.filter_append, List.filter_cons, List.filter_cons]
  have e1 : (List.range k).filter (fun i => x.testBit i) = [] := List.filter_eq_nil_iff.2 fun a ha => by
    rw [(hb a).1 (List.mem_range.1 ha)]; simp
  have e2 : (List.range k).filter (fun i => (x &&& (x - 1)).testBit i) = [] := List.filter_eq_nil_iff.2 fun a ha => by
    rw [(hb a).2.2, (hb a).1 (List.mem_range.1 ha)]; simp
  have e3 : x.testBit k = true := (hb k).2.1 rfl
  have e4 : (x &&& (x - 1)).testBit k = false := by rw [(hb k).2.2]; simp
  rw [e1, e2, e3, e4, if_pos rfl, if_neg (by simp), List.nil_append, List.nil_append]
  congr 1
  apply List.filter_congr
  intro a ha
  obtain ⟨b, _, rfl⟩ := List.mem_map.1 ha
  rw [(hb _).2.2, show decide (b + (k + 1) = k) = false by simp; omega]; simp
/-- A part's literals. -/
def litsP (vs : List MVar) (p : Nat) : Cla := (bitsL p).map fun i => ⟨((i / 6 : Nat) : Int), 3, (varAt vs (i / 6)).lo + ((i % 6 : Nat) : Int)⟩
theorem lits_len (vs : List MVar) (p : Nat) : (litsP vs p).length ≤ 36 := by
  unfold litsP bitsL
  rw [List.length_map]
  exact Nat.le_trans (List.length_filter_le _ _) (by simp)
/-- What can be spared is spared, bit by bit. -/
def spareP (says : Nat → Bool) : Nat → Nat → Nat → Nat
  | 0, gone, _ => gone
  | f + 1, gone, rest => if rest = 0 then gone else spareP says f (if says (lessN gone (2 ^ Lib.ctz 64 rest)) then lessN gone (2 ^ Lib.ctz 64 rest) else gone) (rest &&& (rest - 1))
theorem spare_says (says : Nat → Bool) : ∀ (f gone rest : Nat), says gone = true → says (spareP says f gone rest) = true
  | 0, gone, rest, h => h
  | f + 1, gone, rest, h => by
    unfold spareP
    split
    · exact h
    · apply spare_says
      split
      · assumption
      · exact h
theorem spare_sub (says : Nat → Bool) : ∀ (f gone rest i : Nat), (spareP says f gone rest).testBit i = true → gone.testBit i = true
  | 0, gone, rest, i, h => h
  | f + 1, gone, rest, i, h => by
    unfold spareP at h
    split at h
    · exact h
    · have := spare_sub says f _ _ i h
      split at this
      · rw [testBit_less, Bool.and_eq_true] at this
        exact this.1
      · exact this
theorem spare_fuel (says : Nat → Bool) : ∀ (f g gone rest : Nat), rest < f → rest < g → rest < 2 ^ 64 → spareP says f gone rest = spareP says g gone rest
  | 0, g, gone, rest, hf, hg, _ => by omega
  | f + 1, 0, gone, rest, hf, hg, _ => by omega
  | f + 1, g + 1, gone, rest, hf, hg, h => by
    unfold spareP
    split
    · rfl
    · rename_i h0
      have := low_less rest h0 h
      exact spare_fuel says f g _ _ (by omega) (by omega) (by omega)
theorem spare_step (says : Nat → Bool) (gone rest : Nat) (h0 : rest ≠ 0) (h : rest < 2 ^ 64) : spareP says (rest + 1) gone rest = spareP says ((rest &&& (rest - 1)) + 1) (if says (lessN gone (2 ^ Lib.ctz 64 rest)) then lessN gone (2 ^ Lib.ctz 64 rest) else gone) (rest &&& (rest - 1)) := by
  conv => lhs; unfold spareP
  rw [if_neg h0]
  have := low_less rest h0 h
  exact spare_fuel says _ _ _ _ (by omega) (by omega) (by omega)
def goneP (vs : List MVar) (s : Sto) : Nat := lessN (wholeP vs) (storedP vs s)
def leastP (vs : List MVar) (c : MCon) (s : Sto) (any : Cla) : Nat := spareP (fun g => saysP vs (pointsP vs c) (heldP vs any ||| g)) (goneP vs s + 1) (goneP vs s) (goneP vs s)
theorem bit_at (vs : List MVar) (hv : VarsOk vs) (f : Nat → Int → Bool) (v : Nat) (x : Int) (h : v < vs.length) (h1 : (varAt vs v).lo ≤ x) (h2 : x ≤ (varAt vs v).hi) : (ofP vs f).testBit (6 * v + (x - (varAt vs v).lo).toNat) = f v x := by
  have h3 := hv.2 v
  unfold sizeV at h3
  have e1 : (6 * v + (x - (varAt vs v).lo).toNat) / 6 = v := by omega
  have e2 : (6 * v + (x - (varAt vs v).lo).toNat) % 6 = (x - (varAt vs v).lo).toNat := by omega
  unfold ofP
  rw [testBit_of vs hv, e1, e2, show (varAt vs v).lo + (((x - (varAt vs v).lo).toNat : Nat) : Int) = x by omega]
  have e3 : (x - (varAt vs v).lo).toNat < sizeV (varAt vs v) := by unfold sizeV; omega
  simp [h, e3]
theorem mem_span_iff (lo hi x : Int) : x ∈ spanR lo hi ↔ lo ≤ x ∧ x ≤ hi := by
  refine ⟨fun h => ?_, fun h => mem_span lo hi x h.1 h.2⟩
  unfold spanR at h
  obtain ⟨k, hk, rfl⟩ := List.mem_map.1 h
  have := List.mem_range.1 hk
  omega
/-- Whatever is a point is one of values. -/
theorem points_back (vs : List MVar) (c : MCon) : ∀ (r u : List Int) (a p : Nat), (∀ v ∈ r, 0 ≤ v ∧ v < (vs.length : Int)) → u.length = vs.length → p ∈ pointsN vs c r u a →
    ∃ u' : List Int, u'.length = vs.length ∧ holdsC c u' = true ∧ (∀ v ∈ r, (varAt vs v.toNat).lo ≤ valAt u' v ∧ valAt u' v ≤ (varAt vs v.toNat).hi) ∧ (∀ w : Int, (∀ v ∈ r, v.toNat ≠ w.toNat) → valAt u' w = valAt u w) ∧
      (∀ i, a.testBit i = true → p.testBit i = true) ∧ ∀ v ∈ r, p.testBit (6 * v.toNat + (valAt u' v - (varAt vs v.toNat).lo).toNat) = true
  | [], u, a, p, _, hu, hp => by
    unfold pointsN at hp
    split at hp
    · rename_i hh
      rw [List.mem_singleton.1 hp]
      exact ⟨u, hu, hh, (fun v hv => by cases hv), (fun _ _ => rfl), (fun _ h => h), (fun v hv => by cases hv)⟩
    · cases hp
  | v :: r, u, a, p, hr, hu, hp => by
    unfold pointsN at hp
    obtain ⟨x, hx, hp⟩ := List.mem_flatMap.1 hp
    obtain ⟨h1, h2⟩ := (mem_span_iff _ _ _).1 hx
    obtain ⟨v0, v1⟩ := hr v (List.mem_cons_self ..)
    obtain ⟨u', l1, l2, l3, l4, l5, l6⟩ := points_back vs c r _ _ p (fun y hy => hr y (List.mem_cons_of_mem _ hy)) (by simpa using hu) hp
    have key : (∀ y ∈ r, y.toNat ≠ v.toNat) → valAt u' v = x := fun hq => by rw [l4 v hq, valAt_set_self _ _ _ (by omega)]
    have same : ∀ y ∈ r, y.toNat = v.toNat → y = v := fun y hy he => by
      have := hr y (List.mem_cons_of_mem _ hy)
      omega
    refine ⟨u', l1, l2, fun y hy => ?_, fun w hw => ?_, fun i hi => l5 i (by rw [Nat.testBit_or, hi]; rfl), fun y hy => ?_⟩
    · rcases List.mem_cons.1 hy with rfl | hy
      · by_cases hq : ∃ z ∈ r, z.toNat = y.toNat
        · obtain ⟨z, hz, he⟩ := hq
          rw [← same z hz he]; exact l3 z hz
        · rw [key fun z hz he => hq ⟨z, hz, he⟩]; exact ⟨h1, h2⟩
      · exact l3 y hy
    · rw [l4 w (fun y hy => hw y (List.mem_cons_of_mem _ hy)), valAt_set_ne _ _ _ _ (hw v (List.mem_cons_self ..))]
    · rcases List.mem_cons.1 hy with rfl | hy
      · by_cases hq : ∃ z ∈ r, z.toNat = y.toNat
        · obtain ⟨z, hz, he⟩ := hq
          rw [← same z hz he]; exact l6 z hz
        · rw [key fun z hz he => hq ⟨z, hz, he⟩]
          refine l5 _ ?_
          rw [Nat.testBit_or, testBit_pow]
          simp
      · exact l6 y hy
/-- A constraint says so, if none of its points stays. -/
theorem says_of (vs : List MVar) (c : MCon) (hsc : ∀ v ∈ scopeC c, 0 ≤ v ∧ v < (vs.length : Int)) (h : Nat)
    (hn : ∀ u : List Int, u.length = vs.length → holdsC c u = true → (∀ v ∈ scopeC c, (varAt vs v.toNat).lo ≤ valAt u v ∧ valAt u v ≤ (varAt vs v.toNat).hi) → ((scopeC c).length = 0 → u = zerosOf vs.length) →
      ∃ v ∈ scopeC c, h.testBit (6 * v.toNat + (valAt u v - (varAt vs v.toNat).lo).toNat) = true) : saysP vs (pointsP vs c) h = true := by
  unfold saysP
  have : (pointsP vs c).any (stayP h) = false := by
    cases hq : (pointsP vs c).any (stayP h)
    · rfl
    · obtain ⟨p, hp, hs⟩ := List.any_eq_true.1 hq
      obtain ⟨u, l1, l2, l3, l4, _, l6⟩ := points_back vs c _ _ _ p hsc (by simp [zerosOf]) hp
      obtain ⟨v, hv, hb⟩ := hn u l1 l2 l3 (fun h0 => by
        have he := List.eq_nil_of_length_eq_zero h0
        rw [he] at l4
        refine List.ext_getElem? fun i => ?_
        by_cases hi : i < vs.length
        · have := l4 (i : Int) (fun v hv => by cases hv)
          unfold valAt at this
          rw [Int.toNat_natCast, List.getD_eq_getElem?_getD, List.getD_eq_getElem?_getD, List.getElem?_eq_getElem (by omega), List.getElem?_eq_getElem (by simp [zerosOf]; exact hi)] at this
          rw [List.getElem?_eq_getElem (by omega), List.getElem?_eq_getElem (by simp [zerosOf]; exact hi)]
          exact congrArg some this
        · rw [List.getElem?_eq_none (by omega), List.getElem?_eq_none (by simp [zerosOf]; omega)])
      have h0 : p &&& h = 0 := by simpa [stayP] using hs
      have := congrArg (fun q => Nat.testBit q (6 * v.toNat + (valAt u v - (varAt vs v.toNat).lo).toNat)) h0
      simp only [Nat.testBit_and, l6 v hv, hb, Nat.zero_testBit] at this
      cases this
  rw [this]; simp
theorem gone_at (vs : List MVar) (hv : VarsOk vs) (s : Sto) (v : Nat) (x : Int) (h : v < vs.length) (h1 : (varAt vs v).lo ≤ x) (h2 : x ≤ (varAt vs v).hi) : (goneP vs s).testBit (6 * v + (x - (varAt vs v).lo).toNat) = !hasB (s.getD v []) x := by
  unfold goneP wholeP storedP
  rw [testBit_less, bit_at vs hv _ v x h h1 h2, bit_at vs hv _ v x h h1 h2]; rfl
/-- Where a constraint takes a value, it says so, if all that the store has not is held beside. -/
theorem says_removed (vs : List MVar) (hv : VarsOk vs) (c : MCon) (hsc : ∀ v ∈ scopeC c, 0 ≤ v ∧ v < (vs.length : Int)) (hl : c.kind = 10 → c.lits ≠ []) (s : Sto) (hs : s.length = vs.length) (k : Nat) (any : Cla) (zs : List Int)
    (hz : ∀ z ∈ zs, staysB c s k z = false) (hne : zs ≠ []) (hany : ∀ x, x ∈ s.getD k [] → oneB any k x = false → x ∈ zs) : saysP vs (pointsP vs c) (heldP vs any ||| goneP vs s) = true := by
  have hsc' : ∀ v ∈ scopeC c, 0 ≤ v ∧ v < (s.length : Int) := by rw [hs]; exact hsc
  have hz0 : ∃ z, staysB c s k z = false := by
    match zs, hne with
    | z :: _, _ => exact ⟨z, hz z (List.mem_cons_self ..)⟩
  obtain ⟨z0, hz0⟩ := hz0
  have hf : failedS s = false := by
    cases hf : failedS s
    · rfl
    · rw [stays_failed c s hf] at hz0; cases hz0
  refine says_of vs c hsc _ fun u h1 h2 h3 h4 => ?_
  apply Classical.byContradiction
  intro hno
  by_cases h0 : (scopeC c).length = 0
  · rw [stays_none c s hf h0, hs, ← h4 h0, h2] at hz0
    cases hz0
  · have hk : (k : Int) ∈ scopeC c := by
      apply Classical.byContradiction
      intro hk
      rw [stays_out c s h0 k z0 hk] at hz0
      cases hz0
    have hin : ∀ v ∈ scopeC c, valAt u v ∈ s.getD v.toNat [] ∧ oneB any v.toNat (valAt u v) = false := by
      intro v hvs
      have hr := hsc v hvs
      have hb := h3 v hvs
      cases hq : (heldP vs any ||| goneP vs s).testBit (6 * v.toNat + (valAt u v - (varAt vs v.toNat).lo).toNat)
      · rw [Nat.testBit_or, gone_at vs hv s v.toNat _ (by omega) hb.1 hb.2] at hq
        unfold heldP at hq
        rw [bit_at vs hv _ v.toNat _ (by omega) hb.1 hb.2] at hq
        rw [Bool.or_eq_false_iff] at hq
        refine ⟨(hasB_iff _ _).1 (by simpa using hq.2), hq.1⟩
      · exact absurd ⟨v, hvs, hq⟩ hno
    have hu := hin _ hk
    rw [Int.toNat_natCast] at hu
    have hst := hz _ (hany _ hu.1 hu.2)
    rw [stays_in c s hf k _ hk] at hst
    have : (metAll c s).contains ((k : Int), valAt u (k : Int)) = true := (met_iff c s hsc' hl k _ hk).2 ⟨u, by rw [hs]; exact h1, fun v hvs => (hin v hvs).1, h2, rfl⟩
    rw [this] at hst
    cases hst
theorem mem_bits (p i : Nat) (hi : i < 36) : i ∈ bitsL p ↔ p.testBit i = true := by
  unfold bitsL
  rw [List.mem_filter, List.mem_range]
  exact ⟨fun h => h.2, fun h => ⟨hi, h⟩⟩
/-- A part's literals hold where it is hit. -/
theorem lits_hold (vs : List MVar) (hv : VarsOk vs) (p : Nat) (vals : List Int) (hm : MayBe vs vals) (h : Hits vs vals p) : claB (litsP vs p) vals = true := by
  obtain ⟨v, hl, hb⟩ := h
  obtain ⟨p1, p2, p3⟩ := pos_parts vs hv vals hm v hl
  have h6 := hv.1
  have hi : posV vs vals v < 36 := by omega
  rw [claB_iff]
  refine ⟨_, List.mem_map.2 ⟨posV vs vals v, (mem_bits p _ hi).2 hb, rfl⟩, ?_⟩
  rw [p1, p3]
  unfold litV valAt
  simp
theorem lits_right (vs : List MVar) (hv : VarsOk vs) (hb : ∀ v : Nat, v < vs.length → -50 ≤ (varAt vs v).lo ∧ (varAt vs v).hi ≤ 50) (p : Nat) (hp : ∀ i, p.testBit i = true → (wholeP vs).testBit i = true) : ∀ l ∈ litsP vs p, litE vs l = 0 := by
  intro l hl
  obtain ⟨i, hi, rfl⟩ := List.mem_map.1 hl
  unfold bitsL at hi
  have h1 := hp i (List.mem_filter.1 hi).2
  unfold wholeP ofP at h1
  rw [testBit_of vs hv] at h1
  simp only [Bool.and_eq_true, decide_eq_true_eq] at h1
  have h2 := hb (i / 6) h1.1
  have h3 := h1.2.1
  unfold sizeV at h3
  unfold litE
  simp only
  rw [if_neg (by omega), if_neg (by omega), if_neg (by omega)]
theorem gone_whole (vs : List MVar) (s : Sto) (i : Nat) (h : (goneP vs s).testBit i = true) : (wholeP vs).testBit i = true := by
  unfold goneP at h
  rw [testBit_less, Bool.and_eq_true] at h
  exact h.1
/-- What Removed answers: a literal that stands anyway, and what can't be spared. -/
def notL (k : Nat) (z : Int) : MLit := ⟨(k : Int), 4, z⟩
def reasonP (vs : List MVar) (c : MCon) (s : Sto) (any : Cla) : Cla := any ++ litsP vs (leastP vs c s any)
theorem vars_bounds (m : Mod) (hm : checkM m = 0) (v : Nat) (h : v < m.vars.length) : -50 ≤ (varAt m.vars v).lo ∧ (varAt m.vars v).hi ≤ 50 := by
  have e : m.vars[v]? = some (varAt m.vars v) := by unfold varAt; rw [List.getD_eq_getElem?_getD, List.getElem?_eq_getElem h]; rfl
  have := var_ok m hm v _ e
  omega
theorem firstE_zero (l : List Int) (h : ∀ e ∈ l, e = 0) : firstE l = 0 := by
  induction l with
  | nil => rfl
  | cons a r ih =>
    unfold firstE
    rw [if_pos (h a (List.mem_cons_self ..))]
    exact ih fun e he => h e (List.mem_cons_of_mem _ he)
theorem reason_right (m : Mod) (hm : checkM m = 0) (c : MCon) (s : Sto) (any : Cla) (ha : any.length ≤ 1) (hr : ∀ l ∈ any, litE m.vars l = 0) : claE m.vars (reasonP m.vars c s any) = 0 := by
  have h1 := lits_len m.vars (leastP m.vars c s any)
  unfold claE
  rw [if_neg (by unfold reasonP; rw [List.length_append]; omega)]
  refine firstE_zero _ fun e he => ?_
  obtain ⟨l, hl, rfl⟩ := List.mem_map.1 he
  unfold reasonP at hl
  rcases List.mem_append.1 hl with h | h
  · exact hr l h
  · refine lits_right m.vars (vars_okP m hm) (vars_bounds m hm) _ (fun i hi => ?_) l h
    unfold leastP at hi
    exact gone_whole _ _ _ (spare_sub _ _ _ _ _ hi)
/-- A REASON HOLDS WHERE THE CONSTRAINT DOES. -/
theorem reason_holds (m : Mod) (hm : checkM m = 0) (j : Nat) (c : MCon) (hc : m.cons[j]? = some c) (s : Sto) (any : Cla) (hany : ∀ l ∈ any, litE m.vars l = 0) (hs : saysP m.vars (pointsP m.vars c) (heldP m.vars any ||| goneP m.vars s) = true)
    (vals : List Int) (hv : hasS (beginS m.vars) vals = true) (hh : holdsC c vals = true) : claB (reasonP m.vars c s any) vals = true := by
  have hok := vars_okP m hm
  have hmb := maybe_of m.vars vals hv
  obtain ⟨k1, k2⟩ := scope_in m hm j c hc
  have h1 : saysP m.vars (pointsP m.vars c) (heldP m.vars any ||| leastP m.vars c s any) = true := by
    unfold leastP
    exact spare_says (fun g => saysP m.vars (pointsP m.vars c) (heldP m.vars any ||| g)) _ _ _ hs
  obtain ⟨v, hvl, hb⟩ := says_hits m.vars hok c k1 k2 _ h1 vals hmb hh
  unfold reasonP claB
  rw [List.any_append, Bool.or_eq_true]
  rw [Nat.testBit_or, Bool.or_eq_true] at hb
  rcases hb with hb | hb
  · left
    exact (held_hits m.vars hok vals hmb any (fun l hl => by
      have := hany l hl
      unfold litE at this
      by_cases h0 : l.var < 0 ∨ (m.vars.length : Int) ≤ l.var
      · rw [if_pos h0] at this; cases this
      · omega)).1 ⟨v, hvl, hb⟩
  · right
    exact lits_hold m.vars hok _ vals hmb ⟨v, hvl, hb⟩
end Go.Proofs.YtdjbejlbmaiocagGreatDoor
