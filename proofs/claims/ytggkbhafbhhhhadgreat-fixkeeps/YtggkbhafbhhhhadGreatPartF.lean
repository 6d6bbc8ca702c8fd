/-
  PART 6 of what the proof leans on (FixA, NarC, FixB, StoF, RefI, RefA, StoG, TwoPlain, ClaA, ClaB).
-/
import Derived.Test.YtggkbhafbhhhhadGreatPartE
import Derived.Deep.QuietTactic
import Derived.BigQuiet
/-
  WALKS: package fault: Clauses. Package fix: checkIn, the ways.
-/
namespace Go.Proofs.YtggkbhafbhhhhadGreat
open Go.RowKit

set_option maxHeartbeats 800000 in
set_option maxRecDepth 100000 in
theorem clas_check (vs : List MVar) (l : List Cla) (v u : Value) (w : World) (hv : VArg w v vs) (hu : LLArg w u l) :
    Calls Tryz.prog 60 #[v, u] w fun e w' => e = .returned (.int .i64 (clasE vs l)) ∧ Below w.heap.size w w' := by
  have HVA : Hid (∀ w' : World, Below w.heap.size w w' → VArg w' v vs) := fun w' h => VArg.below h hv
  obtain ⟨a1, c1, rfl, _, _⟩ := hv
  obtain ⟨a, cc, rfl, hm, hr⟩ := hu
  have HV : Hid (∀ (i : Nat) (t : Cla), l[i]? = some t → ∃ b off x, a = some ⟨b, off, none⟩ ∧ b < w.heap.size ∧ w.cell? ⟨b, off + i, none⟩ = some x ∧ LArg w x t) := hr
  unfold maxLen at hm
  obtain ⟨hm1, hm⟩ := hm
  obtain ⟨R, hR⟩ : ∃ R, clasE vs l = R := ⟨_, rfl⟩
  rw [hR]
  have HE : Hid (R = if 600 < l.length then 2 else firstE (l.map (claE vs))) := by rw [← hR]; rfl
  clear hR hr
  by_cases h40 : 600 < l.length
  · have HN : Hid (R = 2) := by rw [HE.out, if_pos h40]; rfl
    go_enter Tryz.func60, Tryz.ntmps60
    go_wp2
    go_ret
    exact ⟨ret_int HN.out.symm, Below.refl _ _⟩
  · have HE2 : Hid (R = firstE (l.map (claE vs))) := by rw [HE.out, if_neg h40]; rfl
    go_enter Tryz.func60, Tryz.ntmps60
    go_wp2_with fail
    go_loopw [13] (fun i wr => ∃ k : Nat, k ≤ l.length ∧ i = .int .i64 k ∧ Hid (firstE ((l.map (claE vs)).take k) = 0) ∧ Below w.heap.size w wr) (fun i _ => l.length - (intOf i).toNat)
    case atStart => exact ⟨0, by omega, rfl, rfl, Below.refl _ _⟩
    case round =>
      obtain ⟨k, hk, rfl, hall, hbw⟩ := hrel
      by_cases hlt : k < l.length
      · obtain ⟨t, hz⟩ : ∃ z, l[k]? = some z := ⟨l[k], by simp [hlt]⟩
        obtain ⟨b, off, x, ha, hb, q0, hx⟩ := HV.out k t hz
        have HX : Hid (LArg wr x t) := LArg.below hbw hx
        obtain ⟨a5, c5, rfl, _, _⟩ := hx
        have hc0 := (hbw.cell (p := ⟨b, off + k, none⟩) hb).trans q0
        subst ha
        obtain ⟨er, her⟩ : ∃ er, claE vs t = er := ⟨_, rfl⟩
        have HER : Hid (claE vs t = er) := her
        have HZ : Hid ((l.map (claE vs))[k]? = some er) := by show _ = _; rw [List.getElem?_map, hz, ← her]; rfl
        clear hz q0 her
        go_wp2_with fail
        refine (cla_check vs t _ _ _ (HVA.out _ hbw) HX.out).mono ?_
        rintro e w2 ⟨rfl, hb2⟩
        rw [HER.out]
        have hB2 : Below w.heap.size w w2 := hbw.trans (hb2.mono hbw.size)
        clear hb2
        by_cases he : er = 0
        · subst he
          have HN : Hid (firstE ((l.map (claE vs)).take (k + 1)) = 0) := firstE_step _ k hall.out HZ.out
          go_wp2
          go_roundw
          case rel => exact ⟨k + 1, by omega, by go_num, HN, hB2⟩
          case measure => simp [intOf]; omega
        · have HN : Hid (R = er) := by rw [HE2.out]; exact firstE_hit _ k er hall.out HZ.out he
          have he2 : (er != 0) = true := by simpa using he
          clear he
          go_wp2
          go_ret
          exact ⟨ret_int HN.out.symm, hB2⟩
      · have HN : Hid (R = 0) := by
          have := hall.out
          rw [List.take_of_length_le (by simp; omega)] at this
          rw [HE2.out]; exact this
        go_wp2
        go_ret
        exact ⟨ret_int HN.out.symm, hbw⟩

set_option maxHeartbeats 800000 in
set_option maxRecDepth 100000 in
theorem fin_any (m : Mod) (s : Sto) (l : List Cla) (vs cs v u : Value) (w : World) (hm : MArg w vs cs m) (hv : RArg w v s) (hu : LLArg w u l) :
    Calls Tryz.prog 26 #[modV vs cs m, v, u] w fun e w' => e = .returned (.int .i64 (bothE m s l)) ∧ Below w.heap.size w w' := by
  have HMA : Hid (∀ w' : World, Below w.heap.size w w' → MArg w' vs cs m) := fun w' h => MArg.below h hm
  have HVA : Hid (∀ w' : World, Below w.heap.size w w' → RArg w' v s) := fun w' h => RArg.below h hv
  have HUA : Hid (∀ w' : World, Below w.heap.size w w' → LLArg w' u l) := fun w' h => LLArg.below h hu
  obtain ⟨⟨a1, c1, rfl, _, _⟩, ⟨a2, c2, rfl, _, _⟩⟩ := hm
  obtain ⟨a3, c3, rfl, _, _⟩ := hv
  obtain ⟨a4, c4, rfl, _, _⟩ := hu
  obtain ⟨R, hR⟩ : ∃ R, bothE m s l = R := ⟨_, rfl⟩
  rw [hR]
  obtain ⟨er, her⟩ : ∃ er, checkL m [s] = er := ⟨_, rfl⟩
  have HER : Hid (checkL m [s] = er) := her
  have HE : Hid (R = if er = 0 then clasE m.vars l else er) := by rw [← hR, ← her]; rfl
  clear hR her
  unfold modV
  go_enter Tryz.func26, Tryz.ntmps26
  go_wp2_with fail
  refine (scheck_any m s (.slice a1 m.vars.length c1) (.slice a2 m.cons.length c2) _ _ ?_ ?_).mono ?_
  · exact HMA.out _ (below_alloc _ _)
  · exact HVA.out _ (below_alloc _ _)
  rintro e w1 ⟨rfl, hb1⟩
  rw [HER.out]
  have g0 : w1.cell? ⟨w.heap.size, 0, none⟩ = some (.slice a1 m.vars.length c1) := (hb1.cell (by simp)).trans (by simp)
  have HB1 : Hid (Below w.heap.size w w1) := (below_alloc _ _).trans (hb1.mono (by simp))
  clear hb1
  by_cases he : er = 0
  · subst he
    have HN : Hid (R = clasE m.vars l) := by rw [HE.out, if_pos rfl]; rfl
    go_wp2_with fail
    refine (clas_check m.vars l _ _ _ (HMA.out _ HB1.out).1 (HUA.out _ HB1.out)).mono ?_
    rintro e w2 ⟨rfl, hb2⟩
    have hb3 : Below w.heap.size w w2 := HB1.out.trans (hb2.mono HB1.out.size)
    clear hb2
    go_wp2
    go_ret
    exact ⟨ret_int HN.out.symm, hb3⟩
  · have HN : Hid (R = er) := by rw [HE.out, if_neg he]; rfl
    have he2 : (er != 0) = true := by simpa using he
    clear he
    go_wp2
    go_ret
    exact ⟨ret_int HN.out.symm, HB1.out⟩

theorem alloc_here (w : World) (n : Nat) (v : Value) (t : TypeId) (h : n = w.heap.size) : (w.alloc (.cells #[v] t)).cell? ⟨n, 0, none⟩ = some v := by
  rw [h]; exact World.cell?_alloc_at _ _ _ 0 (by simp)
theorem enters_con (args : Array Value) (w' : World) : Sem.run Tryz.prog (callFunc 58 args) w' = .ok (.enter 58 args) w' := by
  simp [callFunc, go_sem, Tryz.func58, Tryz.f58]
theorem enters_cla (args : Array Value) (w' : World) : Sem.run Tryz.prog (callFunc 61 args) w' = .ok (.enter 61 args) w' := by
  simp [callFunc, go_sem, Tryz.func61, Tryz.f61]

theorem filter_right (m : Mod) (i : Nat) (c : MCon) (t : Sto) (hm : checkM m = 0) (ht : checkV m.vars t = 0) (hc : m.cons[i]? = some c) : filterA m (i : Int) t = (filtS m.vars.length c t, 0) := by
  have hl : i < m.cons.length := (List.getElem?_eq_some_iff.1 hc).1
  have h1 : conCheck m (i : Int) = 0 := by
    unfold conCheck
    rw [if_pos hm, if_neg (by omega)]
  have hg : m.cons.getD ((i : Int)).toNat noCon = c := by rw [Int.toNat_natCast, List.getD_eq_getElem?_getD, hc]; rfl
  unfold filterA
  rw [if_pos ((checkL_one m t).2 ⟨hm, ht⟩), if_pos h1, hg, filt_eq _ _ _ ((checkV_ok _ _).1 ht).1]

set_option maxHeartbeats 800000 in
set_option maxRecDepth 100000 in
theorem conby_any (m : Mod) (i : Nat) (c : MCon) (t : Sto) (vs cs v : Value) (bm bk : Nat) (w : World) (hm : checkM m = 0) (ht : checkV m.vars t = 0) (hc : m.cons[i]? = some c) (hma : MArg w vs cs m) (hv : RArg w v t)
    (h0 : w.cell? ⟨bm, 0, none⟩ = some vs) (h1 : w.cell? ⟨bm, 1, none⟩ = some cs) (h2 : w.cell? ⟨bm, 2, none⟩ = some (.int .i64 m.goal)) (h3 : w.cell? ⟨bm, 3, none⟩ = some (.int .i64 m.var)) (h4 : w.cell? ⟨bk, 0, none⟩ = some (.int .i64 (i : Int))) :
    Calls Tryz.prog 58 #[v, .pointer (some ⟨bm, 0, none⟩), .pointer (some ⟨bk, 0, none⟩)] w fun e w' => ∃ x, e = .returned x ∧ RArg w' x (filtS m.vars.length c t) ∧ Below w.heap.size w w' := by
  have HMA : Hid (MArg w vs cs m) := hma
  have HV : Hid (RArg w v t) := hv
  obtain ⟨M, hM⟩ : ∃ M, filtS m.vars.length c t = M := ⟨_, rfl⟩
  rw [hM]
  have HFR : Hid (filterA m (i : Int) t = (M, 0)) := by show _ = _; rw [← hM]; exact filter_right m i c t hm ht hc
  obtain ⟨⟨a1, c1, rfl, _, _⟩, ⟨a2, c2, rfl, _, _⟩⟩ := hma
  obtain ⟨a3, c3, rfl, _, _⟩ := hv
  clear hm ht hc hM
  go_enter Tryz.func58, Tryz.ntmps58
  go_wp2_with fail
  refine (show Calls Tryz.prog 59 #[.agg #[.slice a1 m.vars.length c1, .slice a2 m.cons.length c2, .int .i64 m.goal, .int .i64 m.var], .int .i64 (i : Int), .slice a3 t.length c3] w _ from filter_any m (i : Int) t (.slice a1 m.vars.length c1) (.slice a2 m.cons.length c2) _ _ HMA.out HV.out).mono ?_
  rintro e w1 ⟨x, rfl, hx, hb1⟩
  rw [HFR.out] at hx ⊢
  have HX : Hid (RArg w1 x M) := hx
  obtain ⟨ax, cx, rfl, _, _⟩ := hx
  go_wp2
  go_ret
  exact ⟨_, rfl, HX.out, hb1⟩

set_option maxHeartbeats 800000 in
set_option maxRecDepth 100000 in
theorem claby_any (m : Mod) (c : Cla) (t : Sto) (v u : Value) (bk : Nat) (w : World) (hm : checkM m = 0) (ht : checkV m.vars t = 0) (hc : claE m.vars c = 0) (hu : LArg w u c) (hv : RArg w v t) (h4 : w.cell? ⟨bk, 0, none⟩ = some u) :
    Calls Tryz.prog 61 #[v, .pointer (some ⟨bk, 0, none⟩)] w fun e w' => ∃ x, e = .returned x ∧ RArg w' x (unitS t c) ∧ Below w.heap.size w w' := by
  have HU : Hid (LArg w u c) := hu
  have HV : Hid (RArg w v t) := hv
  have HCI : Hid (ClaIn t c) := claIn_of m.vars t c ((checkV_ok _ _).1 ht).1 hc
  obtain ⟨hn6, hr6⟩ := rows_short m t hm ht
  have HR6 : Hid (∀ r ∈ t, r.length ≤ 6) := hr6
  obtain ⟨a1, c1, rfl, _, _⟩ := hu
  obtain ⟨a3, c3, rfl, _, _⟩ := hv
  obtain ⟨M, hM⟩ : ∃ M, unitS t c = M := ⟨_, rfl⟩
  rw [hM]
  have HMM : Hid (unitS t c = M) := hM
  clear hm ht hc hr6 hM
  go_enter Tryz.func61, Tryz.ntmps61
  go_wp2_with fail
  refine (unit_any t c _ _ _ HV.out HU.out HCI.out hn6 HR6.out).mono ?_
  rintro e w1 ⟨x, rfl, hx, hb1⟩
  rw [HMM.out] at hx
  have HX : Hid (RArg w1 x M) := hx
  obtain ⟨ax, cx, rfl, _, _⟩ := hx
  go_wp2
  go_ret
  exact ⟨_, rfl, HX.out, hb1⟩

/-- The blocks that ways hang on: what came in, and what is new but for the list itself. -/
def Hangs (N0 N1 M B : Nat) : Nat → Prop := fun k => (k < N0 ∨ N1 ≤ k) ∧ k < M ∧ k ≠ B

set_option maxHeartbeats 1600000 in
set_option maxRecDepth 100000 in
theorem bycons_any (m : Mod) (vs cs : Value) (W0 w : World) (hck : checkM m = 0) (hma : MArg W0 vs cs m) (hW : Below W0.heap.size W0 w) :
    Calls Tryz.prog 25 #[modV vs cs m] w fun e w' => ∃ (B : Nat) (cells : List Value), e = .returned (.slice (some ⟨B, 0, none⟩) m.cons.length m.cons.length) ∧ (w.heap.size ≤ B ∧ B < w'.heap.size) ∧
      w'.ownsRow w.heap.size 86 1 (.slice (some ⟨B, 0, none⟩) m.cons.length m.cons.length) m.cons.length cells ∧
      (∀ (i : Nat) (f : Sto → Sto), (conSteps m)[i]? = some f → ∃ y, cells[i]? = some y ∧ ByS (Hangs W0.heap.size w.heap.size w'.heap.size B) (fun t => checkV m.vars t = 0) f y w') ∧ Below w.heap.size w w' := by
  have HMA : Hid (∀ w' : World, Below W0.heap.size W0 w' → MArg w' vs cs m) := fun w' h => MArg.below h hma
  have HW0 : Hid (Below W0.heap.size W0 w) := hW
  have HCK : Hid (checkM m = 0) := hck
  have hc8 : m.cons.length ≤ 8 := (checkM_vars m hck).2.2.1
  obtain ⟨⟨a1, c1, rfl, _, _⟩, ⟨a2, c2, rfl, _, _⟩⟩ := hma
  obtain ⟨W, hWe⟩ : ∃ W : World, W = w.alloc (.cells #[.slice a1 m.vars.length c1, .slice a2 m.cons.length c2, .int .i64 m.goal, .int .i64 m.var] 25) := ⟨_, rfl⟩
  have HBW : Hid (Below w.heap.size w W) := by rw [hWe]; exact below_alloc _ _
  have hsz : W.heap.size = w.heap.size + 1 := by rw [hWe]; simp
  have HD : Hid (W.cell? ⟨w.heap.size, 0, none⟩ = some (.slice a1 m.vars.length c1) ∧ W.cell? ⟨w.heap.size, 1, none⟩ = some (.slice a2 m.cons.length c2) ∧ W.cell? ⟨w.heap.size, 2, none⟩ = some (.int .i64 m.goal) ∧ W.cell? ⟨w.heap.size, 3, none⟩ = some (.int .i64 m.var)) := by
    rw [hWe]
    refine ⟨?_, ?_, ?_, ?_⟩ <;> simp
  obtain ⟨wm, hrun, hown, hbm⟩ := make_ways m.cons.length (by omega) W
  have d1 := (hbm.cell (p := ⟨w.heap.size, 1, none⟩) (by simp only; omega)).trans HD.out.2.1
  obtain ⟨B, hB⟩ : ∃ B, B = W.heap.size := ⟨_, rfl⟩
  rw [← hB] at hrun hown hbm
  have HOWN : Hid (wm.ownsRow B 86 1 (.slice (some ⟨B, 0, none⟩) m.cons.length m.cons.length) m.cons.length (List.replicate m.cons.length .nilFunc)) := hown
  have HBM : Hid (Below B W wm) := hbm
  have hBw : w.heap.size < B := by omega
  have HBS : Hid (B = w.heap.size + 1) := hB.trans hsz
  have HBS2 : Hid (B = W.heap.size) := hB
  rw [hWe] at hrun
  clear hck hW hown hbm hsz hB hWe
  unfold modV
  go_enter Tryz.func25, Tryz.ntmps25
  go_wp2_with fail
  clear hrun d1
  go_loopw [12] (fun i wr => ∃ (k : Nat) (cells : List Value), k ≤ m.cons.length ∧ i = .int .i64 k ∧ Hid (wr.ownsRow B 86 1 (.slice (some ⟨B, 0, none⟩) m.cons.length m.cons.length) m.cons.length cells) ∧
      Hid (∀ j : Nat, j < k → ∃ bk, cells[j]? = some (.func (.func 58) #[] #[.pointer (some ⟨w.heap.size, 0, none⟩), .pointer (some ⟨bk, 0, none⟩)]) ∧ B < bk ∧ bk < wr.heap.size ∧ wr.cell? ⟨bk, 0, none⟩ = some (.int .i64 (j : Int))) ∧ Hid (Below B W wr)) (fun i _ => m.cons.length - (intOf i).toNat)
  case atStart => exact ⟨0, _, by omega, rfl, HOWN, fun j hj => absurd hj (Nat.not_lt_zero _), HBM⟩
  case round =>
    obtain ⟨k, cells, hk, rfl, HOW, HJ, HB⟩ := hrel
    by_cases hlt : k < m.cons.length
    · have hlen : cells.length = m.cons.length := by have := HOW.out.1; omega
      obtain ⟨y, hy⟩ : ∃ y, cells[k]? = some y := ⟨cells[k]'(by omega), by simp⟩
      have e3 : wr.cell? ⟨B, k, none⟩ = some y := by rw [HOW.out.cellAt k (by omega)]; exact hy
      have e4 := HOW.out.frozenAt k
      have hBl : B < wr.heap.size := (HOW.out.lt B rfl).2
      have HNX : Hid (∃ (cells' : List Value), ((wr.setCell ⟨B, k, none⟩ (.func (.func 58) #[] #[.pointer (some ⟨w.heap.size, 0, none⟩), .pointer (some ⟨wr.heap.size, 0, none⟩)])).alloc (.cells #[.int .i64 (k : Int)] 3)).ownsRow B 86 1 (.slice (some ⟨B, 0, none⟩) m.cons.length m.cons.length) m.cons.length cells' ∧
          (∀ j : Nat, j < k + 1 → ∃ bk, cells'[j]? = some (.func (.func 58) #[] #[.pointer (some ⟨w.heap.size, 0, none⟩), .pointer (some ⟨bk, 0, none⟩)]) ∧ B < bk ∧ bk < ((wr.setCell ⟨B, k, none⟩ (.func (.func 58) #[] #[.pointer (some ⟨w.heap.size, 0, none⟩), .pointer (some ⟨wr.heap.size, 0, none⟩)])).alloc (.cells #[.int .i64 (k : Int)] 3)).heap.size ∧
            ((wr.setCell ⟨B, k, none⟩ (.func (.func 58) #[] #[.pointer (some ⟨w.heap.size, 0, none⟩), .pointer (some ⟨wr.heap.size, 0, none⟩)])).alloc (.cells #[.int .i64 (k : Int)] 3)).cell? ⟨bk, 0, none⟩ = some (.int .i64 (j : Int))) ∧
          Below B W ((wr.setCell ⟨B, k, none⟩ (.func (.func 58) #[] #[.pointer (some ⟨w.heap.size, 0, none⟩), .pointer (some ⟨wr.heap.size, 0, none⟩)])).alloc (.cells #[.int .i64 (k : Int)] 3))) := by
        refine ⟨_, ((HOW.out.stored k _).1).alloc _, fun j hj => ?_, (HB.out.setCell (Nat.le_refl _) _).alloc (by simp; omega) _⟩
        by_cases hjk : j = k
        · subst hjk
          refine ⟨wr.heap.size, by rw [List.getElem?_set_self (by omega)], hBl, by simp, ?_⟩
          exact alloc_here _ _ _ _ (by simp)
        · obtain ⟨bk, h1, h2, h3, h4⟩ := HJ.out j (by omega)
          refine ⟨bk, by rw [List.getElem?_set_ne (by omega)]; exact h1, h2, by simp; omega, ?_⟩
          exact (World.cell?_alloc_past _ _ _ (by simp; exact h3)).trans ((World.cell?_of_block (Below.heap_setCell _ _ _ _ (by simp only; omega))).trans h4)
      clear hy hlen
      go_wp2
      go_roundw
      case rel =>
        obtain ⟨cells', n1, n2, n3⟩ := HNX.out
        exact ⟨k + 1, cells', by omega, by go_num, n1, n2, n3⟩
      case measure => simp [intOf]; omega
    · have HEND : Hid (∃ (cells : List Value), wr.ownsRow w.heap.size 86 1 (.slice (some ⟨B, 0, none⟩) m.cons.length m.cons.length) m.cons.length cells ∧
          (∀ (i : Nat) (f : Sto → Sto), (conSteps m)[i]? = some f → ∃ y, cells[i]? = some y ∧ ByS (Hangs W0.heap.size w.heap.size wr.heap.size B) (fun t => checkV m.vars t = 0) f y wr)) := by
        refine ⟨cells, own_mono HOW.out (by omega), fun i f hf => ?_⟩
        unfold conSteps at hf
        rw [List.getElem?_map] at hf
        obtain ⟨c, hc, rfl⟩ := Option.map_eq_some_iff.1 hf
        have hi : i < m.cons.length := (List.getElem?_eq_some_iff.1 hc).1
        obtain ⟨bk, h1, h2, h3, h4⟩ := HJ.out i (by omega)
        refine ⟨_, h1, _, _, rfl, enters_con, fun t v w' ht hkp hv => ?_⟩
        have hwr : w.heap.size < wr.heap.size := by have := HB.out.size; have := HBS2.out; omega
        have hS0 : Hangs W0.heap.size w.heap.size wr.heap.size B w.heap.size := ⟨Or.inr (Nat.le_refl _), hwr, by omega⟩
        have hSk : Hangs W0.heap.size w.heap.size wr.heap.size B bk := ⟨Or.inr (by omega), h3, by omega⟩
        have hle0 : W0.heap.size ≤ w.heap.size := HW0.out.size
        have hb0 : Below W0.heap.size W0 w' := by
          have q1 : Below W0.heap.size W0 W := HW0.out.trans (HBW.out.mono hle0)
          have q2 : Below W0.heap.size W0 wr := q1.trans (HB.out.mono (by omega))
          exact q2.trans (hkp.to (fun k hk => ⟨Or.inl hk, by omega, by omega⟩))
        obtain ⟨p0, p1, p2, p3⟩ := HD.out
        have cm : ∀ o, w'.cell? ⟨w.heap.size, o, none⟩ = W.cell? ⟨w.heap.size, o, none⟩ := fun o => (hkp.cell (p := ⟨w.heap.size, o, none⟩) hS0).trans (HB.out.cell (p := ⟨w.heap.size, o, none⟩) hBw)
        exact conby_any m i c t _ _ v w.heap.size bk w' HCK.out ht hc (HMA.out _ hb0) hv ((cm 0).trans p0) ((cm 1).trans p1) ((cm 2).trans p2) ((cm 3).trans p3) ((hkp.cell (p := ⟨bk, 0, none⟩) hSk).trans h4)
      have hBl : B < wr.heap.size := (HOW.out.lt B rfl).2
      have HBE : Hid (Below w.heap.size w wr) := HBW.out.trans (HB.out.mono (by omega))
      go_wp2
      go_ret
      obtain ⟨cells', n1, n2⟩ := HEND.out
      exact ⟨B, cells', rfl, ⟨by omega, hBl⟩, n1, n2, HBE.out⟩

set_option maxHeartbeats 1600000 in
set_option maxRecDepth 100000 in
theorem bycla_any (m : Mod) (l : List Cla) (u : Value) (W0 w : World) (hck : checkM m = 0) (hle : clasE m.vars l = 0) (hu : LLArg W0 u l) (hW : Below W0.heap.size W0 w) :
    Calls Tryz.prog 27 #[u] w fun e w' => ∃ (B : Nat) (cells : List Value), e = .returned (.slice (some ⟨B, 0, none⟩) l.length l.length) ∧ (w.heap.size ≤ B ∧ B < w'.heap.size) ∧
      w'.ownsRow w.heap.size 86 1 (.slice (some ⟨B, 0, none⟩) l.length l.length) l.length cells ∧
      (∀ (i : Nat) (f : Sto → Sto), (claSteps l)[i]? = some f → ∃ y, cells[i]? = some y ∧ ByS (Hangs W0.heap.size w.heap.size w'.heap.size B) (fun t => checkV m.vars t = 0) f y w') ∧ Below w.heap.size w w' := by
  have HW0 : Hid (Below W0.heap.size W0 w) := hW
  have HCK : Hid (checkM m = 0) := hck
  obtain ⟨hl600, hall⟩ := clasE_ok _ _ hle
  have HALL : Hid (∀ c ∈ l, claE m.vars c = 0) := hall
  obtain ⟨a, cc, rfl, hm, hr⟩ := hu
  have HV : Hid (∀ (i : Nat) (t : Cla), l[i]? = some t → ∃ b off x, a = some ⟨b, off, none⟩ ∧ b < W0.heap.size ∧ W0.cell? ⟨b, off + i, none⟩ = some x ∧ LArg W0 x t) := hr
  unfold maxLen at hm
  obtain ⟨hm1, hm⟩ := hm
  obtain ⟨wm, hrun, hown, hbm⟩ := make_ways l.length (by omega) w
  have HBM : Hid (Below w.heap.size w wm) := hbm
  obtain ⟨B, hB⟩ : ∃ B, B = w.heap.size := ⟨_, rfl⟩
  rw [← hB] at hrun hown
  have HOWN : Hid (wm.ownsRow B 86 1 (.slice (some ⟨B, 0, none⟩) l.length l.length) l.length (List.replicate l.length .nilFunc)) := hown
  have HBS : Hid (B = w.heap.size) := hB
  clear hck hW hown hbm hB hle hall hr
  go_enter Tryz.func27, Tryz.ntmps27
  go_wp2_with fail
  clear hrun
  go_loopw [11] (fun i wr => ∃ (k : Nat) (cells : List Value), k ≤ l.length ∧ i = .int .i64 k ∧ Hid (wr.ownsRow B 86 1 (.slice (some ⟨B, 0, none⟩) l.length l.length) l.length cells) ∧
      Hid (∀ (j : Nat) (c : Cla), j < k → l[j]? = some c → ∃ bk x, cells[j]? = some (.func (.func 61) #[] #[.pointer (some ⟨bk, 0, none⟩)]) ∧ B < bk ∧ bk < wr.heap.size ∧ wr.cell? ⟨bk, 0, none⟩ = some x ∧ LArg W0 x c) ∧ Hid (Below w.heap.size w wr)) (fun i _ => l.length - (intOf i).toNat)
  case atStart => exact ⟨0, _, by omega, rfl, HOWN, fun j c hj => absurd hj (Nat.not_lt_zero _), HBM⟩
  case round =>
    obtain ⟨k, cells, hk, rfl, HOW, HJ, HB⟩ := hrel
    by_cases hlt : k < l.length
    · obtain ⟨t, ht⟩ : ∃ t, l[k]? = some t := ⟨l[k], by simp [hlt]⟩
      obtain ⟨b, off, x, ha, hb, q0, hx⟩ := HV.out k t ht
      have HX : Hid (LArg W0 x t) := hx
      have HTT : Hid (l[k]? = some t) := ht
      obtain ⟨a5, c5, rfl, _, _⟩ := hx
      have hb1 : b < w.heap.size := Nat.lt_of_lt_of_le hb HW0.out.size
      have hb2 : b < wr.heap.size := Nat.lt_of_lt_of_le hb1 HB.out.size
      have hc0 := (HB.out.cell (p := ⟨b, off + k, none⟩) hb1).trans ((HW0.out.cell (p := ⟨b, off + k, none⟩) hb).trans q0)
      subst ha
      have hlen : cells.length = l.length := by have := HOW.out.1; omega
      obtain ⟨y, hy⟩ : ∃ y, cells[k]? = some y := ⟨cells[k]'(by omega), by simp⟩
      have e3 : wr.cell? ⟨B, k, none⟩ = some y := by rw [HOW.out.cellAt k (by omega)]; exact hy
      have e4 := HOW.out.frozenAt k
      have hBl : B < wr.heap.size := (HOW.out.lt B rfl).2
      have HNX : Hid (∃ (cells' : List Value), ((wr.setCell ⟨B, k, none⟩ (.func (.func 61) #[] #[.pointer (some ⟨wr.heap.size, 0, none⟩)])).alloc (.cells #[.slice a5 t.length c5] 57)).ownsRow B 86 1 (.slice (some ⟨B, 0, none⟩) l.length l.length) l.length cells' ∧
          (∀ (j : Nat) (c : Cla), j < k + 1 → l[j]? = some c → ∃ bk x, cells'[j]? = some (.func (.func 61) #[] #[.pointer (some ⟨bk, 0, none⟩)]) ∧ B < bk ∧ bk < ((wr.setCell ⟨B, k, none⟩ (.func (.func 61) #[] #[.pointer (some ⟨wr.heap.size, 0, none⟩)])).alloc (.cells #[.slice a5 t.length c5] 57)).heap.size ∧
            ((wr.setCell ⟨B, k, none⟩ (.func (.func 61) #[] #[.pointer (some ⟨wr.heap.size, 0, none⟩)])).alloc (.cells #[.slice a5 t.length c5] 57)).cell? ⟨bk, 0, none⟩ = some x ∧ LArg W0 x c) ∧
          Below w.heap.size w ((wr.setCell ⟨B, k, none⟩ (.func (.func 61) #[] #[.pointer (some ⟨wr.heap.size, 0, none⟩)])).alloc (.cells #[.slice a5 t.length c5] 57))) := by
        refine ⟨_, ((HOW.out.stored k _).1).alloc _, fun j c hj hc => ?_, (HB.out.setCell (by rw [HBS.out]; exact Nat.le_refl _) _).alloc (by simp; exact HB.out.size) _⟩
        by_cases hjk : j = k
        · subst hjk
          rw [HTT.out] at hc; cases hc
          refine ⟨wr.heap.size, _, by rw [List.getElem?_set_self (by omega)], hBl, by simp, ?_, HX.out⟩
          exact alloc_here _ _ _ _ (by simp)
        · obtain ⟨bk, x, h1, h2, h3, h4, h5⟩ := HJ.out j c (by omega) hc
          refine ⟨bk, x, by rw [List.getElem?_set_ne (by omega)]; exact h1, h2, by simp; omega, ?_, h5⟩
          exact (World.cell?_alloc_past _ _ _ (by simp; exact h3)).trans ((World.cell?_of_block (Below.heap_setCell _ _ _ _ (by simp only; omega))).trans h4)
      clear hy hlen ht q0 hb hb1
      go_wp2
      go_roundw
      case rel =>
        obtain ⟨cells', n1, n2, n3⟩ := HNX.out
        exact ⟨k + 1, cells', by omega, by go_num, n1, n2, n3⟩
      case measure => simp [intOf]; omega
    · have HEND : Hid (∃ (cells : List Value), wr.ownsRow w.heap.size 86 1 (.slice (some ⟨B, 0, none⟩) l.length l.length) l.length cells ∧
          (∀ (i : Nat) (f : Sto → Sto), (claSteps l)[i]? = some f → ∃ y, cells[i]? = some y ∧ ByS (Hangs W0.heap.size w.heap.size wr.heap.size B) (fun t => checkV m.vars t = 0) f y wr)) := by
        refine ⟨cells, own_mono HOW.out (by rw [HBS.out]; exact Nat.le_refl _), fun i f hf => ?_⟩
        unfold claSteps at hf
        rw [List.getElem?_map] at hf
        obtain ⟨c, hc, rfl⟩ := Option.map_eq_some_iff.1 hf
        have hi : i < l.length := (List.getElem?_eq_some_iff.1 hc).1
        obtain ⟨bk, x, h1, h2, h3, h4, h5⟩ := HJ.out i c (by omega) hc
        refine ⟨_, h1, _, _, rfl, enters_cla, fun t v w' ht hkp hv => ?_⟩
        have hBS := HBS.out
        have hSk : Hangs W0.heap.size w.heap.size wr.heap.size B bk := ⟨Or.inr (by omega), h3, by omega⟩
        have hle0 : W0.heap.size ≤ w.heap.size := HW0.out.size
        have hle1 : w.heap.size ≤ wr.heap.size := HB.out.size
        have hb0 : Below W0.heap.size W0 w' := by
          have q2 : Below W0.heap.size W0 wr := HW0.out.trans (HB.out.mono hle0)
          exact q2.trans (hkp.to (fun k hk => ⟨Or.inl hk, by omega, by omega⟩))
        exact claby_any m c t v x bk w' HCK.out ht (HALL.out c (List.mem_of_getElem? hc)) (LArg.below hb0 h5) hv ((hkp.cell (p := ⟨bk, 0, none⟩) hSk).trans h4)
      have hBl : B < wr.heap.size := (HOW.out.lt B rfl).2
      go_wp2
      go_ret
      obtain ⟨cells', n1, n2⟩ := HEND.out
      exact ⟨B, cells', rfl, ⟨by rw [HBS.out]; exact Nat.le_refl _, hBl⟩, n1, n2, HB.out⟩
end Go.Proofs.YtggkbhafbhhhhadGreat
/-
  WALKS: package narrow: size, Till.
-/
namespace Go.Proofs.YtggkbhafbhhhhadGreat
open Go.RowKit

def leftM (z : Int) : Nat := if z < 0 then 1000 else z.toNat
theorem left_less (z : Nat) (n : Int) (h : z ≤ 36) (hn : n = -1 ∨ (z : Int) ≤ n) (hne : ¬ n = (z : Int)) : leftM (z : Int) < leftM n := by
  unfold leftM
  rw [if_neg (by omega)]
  split
  · omega
  · omega
def sizeK (s : Sto) (k : Nat) : Nat := sizeS (s.take k)
theorem sizeK_next (s : Sto) (k : Nat) (r : List Int) (h : s[k]? = some r) : sizeK s (k + 1) = sizeK s k + r.length := by
  unfold sizeK sizeS
  rw [List.take_add_one, h, List.map_append, List.sum_append]; simp
theorem sizeK_le (s : Sto) (hr6 : ∀ r ∈ s, r.length ≤ 6) : ∀ k, sizeK s k ≤ 6 * k
  | 0 => by simp [sizeK, sizeS]
  | k + 1 => by
    have ih := sizeK_le s hr6 k
    cases hq : s[k]? with
    | none =>
      have : s.take (k + 1) = s.take k := by rw [List.take_add_one, hq]; simp
      unfold sizeK at ih ⊢
      rw [this]; omega
    | some r =>
      rw [sizeK_next s k r hq]
      have := hr6 r (List.mem_of_getElem? hq)
      omega

set_option maxHeartbeats 800000 in
set_option maxRecDepth 100000 in
theorem size_any (s : Sto) (v : Value) (w : World) (hv : RArg w v s) (hn : s.length ≤ 6) (hr6 : ∀ r ∈ s, r.length ≤ 6) :
    Calls Tryz.prog 55 #[v] w fun e w' => e = .returned (.int .i64 (sizeS s : Nat)) ∧ w' = w := by
  obtain ⟨a, c, rfl, hm, hr⟩ := hv
  have HV : Hid (∀ (i : Nat) (r : List Int), s[i]? = some r → ∃ b off x, a = some ⟨b, off, none⟩ ∧ b < w.heap.size ∧ w.cell? ⟨b, off + i, none⟩ = some x ∧ IArg w x r) := hr
  have HR6 : Hid (∀ r ∈ s, r.length ≤ 6) := hr6
  have HLE : Hid (∀ k, sizeK s k ≤ 6 * k) := sizeK_le s hr6
  obtain ⟨R, hR⟩ : ∃ R, sizeS s = R := ⟨_, rfl⟩
  rw [hR]
  have HR : Hid (sizeS s = R) := hR
  unfold maxLen at hm
  obtain ⟨hm1, hm⟩ := hm
  clear hr hR hr6
  go_enter Tryz.func55, Tryz.ntmps55
  go_wp2_with fail
  go_loop [3, 8] (fun t i => ∃ (k n : Nat), k ≤ s.length ∧ i = .int .i64 k ∧ t = .int .i64 (n : Int) ∧ Hid (sizeK s k = n) ∧ n ≤ 36) (fun _ i => s.length - (intOf i).toNat)
  case atStart => exact ⟨0, 0, by omega, rfl, rfl, rfl, by omega⟩
  case round =>
    obtain ⟨k, n, hk, rfl, rfl, hz, hn36⟩ := hrel
    by_cases hlt : k < s.length
    · obtain ⟨r, hr⟩ : ∃ r, s[k]? = some r := ⟨s[k], by simp [hlt]⟩
      have hr6 := HR6.out r (List.mem_of_getElem? hr)
      obtain ⟨b, off, x, ha, hb, hc, hx⟩ := HV.out k r hr
      obtain ⟨a5, c5, rfl, _, _⟩ := hx
      have HN : Hid (sizeK s (k + 1) = n + r.length) := by show _ = _; rw [sizeK_next s k r hr, hz.out]
      have hle : n + r.length ≤ 36 := by have h := HLE.out (k + 1); rw [HN.out] at h; omega
      subst ha
      clear hr
      go_wp2
      go_round
      case rel => exact ⟨k + 1, n + r.length, by omega, by go_num, by go_num, HN, hle⟩
      case measure => simp [intOf]; omega
    · have HN : Hid (R = n) := by
        have h := hz.out
        unfold sizeK at h
        rw [List.take_of_length_le (by omega), HR.out] at h
        exact h
      go_wp2
      go_ret
      exact ⟨ret_int (by rw [HN.out]), rfl⟩

set_option maxHeartbeats 1600000 in
set_option maxRecDepth 100000 in
theorem till_any (m : Mod) (fs : List (Sto → Sto)) (s : Sto) (v u : Value) (w : World) (hm : checkM m = 0) (hs : checkV m.vars s = 0) (hok : ∀ f ∈ fs, StepOk f)
    (hri : ∀ f ∈ fs, ∀ t, checkV m.vars t = 0 → checkV m.vars (f t) = 0) (hv : RArg w v s) (hu : WArg (fun t => checkV m.vars t = 0) w u fs) :
    Calls Tryz.prog 24 #[v, u] w fun e w' => ∃ x t, e = .returned x ∧ RArg w' x t ∧ Greatest fs s t ∧ checkV m.vars t = 0 ∧ Below w.heap.size w w' := by
  have HM : Hid (checkM m = 0) := hm
  have HS : Hid (checkV m.vars s = 0) := hs
  have HOK : Hid (∀ f ∈ fs, StepOk f) := hok
  have HRI : Hid (∀ f ∈ fs, ∀ t, checkV m.vars t = 0 → checkV m.vars (f t) = 0) := hri
  have HSH : Hid (∀ t : Sto, checkV m.vars t = 0 → t.length ≤ 6 ∧ (∀ r ∈ t, r.length ≤ 6) ∧ sizeS t ≤ 36) := fun t ht => by
    obtain ⟨h1, h2⟩ := rows_short m t hm ht
    refine ⟨h1, h2, ?_⟩
    have h3 := sizeK_le t h2 t.length
    unfold sizeK at h3
    rw [List.take_of_length_le (Nat.le_refl _)] at h3
    omega
  have HV : Hid (RArg w v s) := hv
  obtain ⟨a1, c1, rfl, _, _⟩ := hv
  obtain ⟨a2, c2, rfl, hm2, hr2⟩ := hu
  have HU : Hid (∀ (i : Nat) (f : Sto → Sto), fs[i]? = some f → ∃ b off x, a2 = some ⟨b, off, none⟩ ∧ b < w.heap.size ∧ w.cell? ⟨b, off + i, none⟩ = some x ∧ ByB (fun t => checkV m.vars t = 0) f x w) := hr2
  unfold maxLen at hm2
  obtain ⟨hm21, hm2⟩ := hm2
  clear hm hs hok hri hr2
  go_enter Tryz.func24, Tryz.ntmps24
  go_wp2_with fail
  refine (all_any s _ _ HV.out (HSH.out s HS.out).1 (HSH.out s HS.out).2.1).mono ?_
  rintro e w1 ⟨x, rfl, hx, hb1⟩
  have HX : Hid (RArg w1 x s) := hx
  have HB1 : Hid (Below w.heap.size w w1) := hb1
  obtain ⟨ax, cx, rfl, _, _⟩ := hx
  clear hb1
  go_wp2_with fail
  go_loopw [5, 6] (fun o l wr => ∃ (t : Sto) (a : Option Addr) (c : Nat) (n : Int), o = .slice a t.length c ∧ l = .int .i64 n ∧ Hid (RArg wr (.slice a t.length c) t) ∧ Hid (OnWay fs s t) ∧ Hid (checkV m.vars t = 0) ∧ Hid (n = (sizeS t : Nat) → ∀ f ∈ fs, f t = t) ∧ (n = -1 ∨ ((sizeS t : Nat) : Int) ≤ n) ∧ n ≤ 36 ∧ Below w.heap.size w wr)
    (fun _ l _ => leftM (intOf l))
  case atStart => exact ⟨s, _, _, -1, rfl, rfl, HX, onway_begin fs s, HS, fun h => by omega, Or.inl rfl, by omega, HB1.out⟩
  case round =>
    obtain ⟨t, a, c, n, rfl, rfl, HT, HW, HC, HSA, hn1, hn36, hbw⟩ := hrel
    obtain ⟨q1, q2, q3⟩ := HSH.out t HC.out
    have HQ2 : Hid (∀ r ∈ t, r.length ≤ 6) := q2
    have HBW : Hid (Below w.heap.size w wr) := hbw
    clear q2 hbw
    go_wp2_with fail
    refine (size_any t _ _ HT.out q1 HQ2.out).mono ?_
    rintro e w2 ⟨rfl, rfl⟩
    obtain ⟨z, hz⟩ : ∃ z, sizeS t = z := ⟨_, rfl⟩
    have HZ : Hid (sizeS t = z) := hz
    rw [hz] at hn1 q3 HSA ⊢
    clear hz
    by_cases hnz : n = (z : Int)
    · have HSM : Hid (∀ f ∈ fs, f t = t) := HSA.out hnz
      have g0 : (n != (z : Int)) = false := by simpa using hnz
      have HG : Hid (Greatest fs s (nrmS t)) := till_end HOK.out HW.out HSM.out
      obtain ⟨F, hF⟩ : ∃ F, failedS t = F := ⟨_, rfl⟩
      have HF : Hid (failedS t = F) := hF
      clear hnz hF
      go_wp2_with fail
      refine (sift_failed t _ _ HT.out).mono ?_
      rintro e w3 ⟨rfl, rfl⟩
      rw [HF.out]
      cases F
      · have HN : Hid (nrmS t = t) := by show _ = _; unfold nrmS; rw [HF.out, if_neg (by simp)]
        go_wp2
        go_ret
        exact ⟨_, t, rfl, HT.out, by rw [← HN.out]; exact HG.out, HC.out, HBW.out⟩
      · have HN : Hid (nrmS t = clearS t) := by show _ = _; unfold nrmS; rw [HF.out, if_pos rfl]
        go_wp2_with fail
        refine (none_any t _ _ HT.out q1).mono ?_
        rintro e w4 ⟨y, rfl, hy, hb4⟩
        have HY : Hid (RArg w4 y (clearS t)) := hy
        obtain ⟨ay, cy, rfl, _, _⟩ := hy
        have hB4 := HBW.out.trans (hb4.mono HBW.out.size)
        clear hb4
        go_wp2
        go_ret
        exact ⟨_, clearS t, rfl, HY.out, by rw [← HN.out]; exact HG.out, by rw [← HN.out]; exact checkV_nrm _ _ HC.out, hB4⟩
    · have g0 : (n != (z : Int)) = true := by simpa using hnz
      go_wp2_with fail
      refine (size_any t _ _ HT.out q1 HQ2.out).mono ?_
      rintro e w3 ⟨rfl, rfl⟩
      rw [HZ.out]
      go_wp2_with fail
      go_loopw [5, 19] (fun o i wr => ∃ (k : Nat) (q : Sto) (a : Option Addr) (c : Nat), k ≤ fs.length ∧ i = .int .i64 k ∧ o = .slice a q.length c ∧ Hid (RArg wr (.slice a q.length c) q) ∧ Hid (q = passS (fs.take k) t) ∧ Below w.heap.size w wr) (fun _ i _ => fs.length - (intOf i).toNat)
      case atStart => exact ⟨0, t, a, c, by omega, rfl, rfl, HT, rfl, HBW.out⟩
      case round =>
        obtain ⟨k, q, a, c, hk, rfl, rfl, HQ, HP, hbw⟩ := hrel
        have HBW2 : Hid (Below w.heap.size w wr) := hbw
        clear hbw
        by_cases hlt : k < fs.length
        · obtain ⟨f, hf⟩ : ∃ f, fs[k]? = some f := ⟨fs[k], by simp [hlt]⟩
          obtain ⟨b, off, x, ha, hb, hc0, hby⟩ := HU.out k f hf
          subst ha
          have hc := (HBW2.out.cell (p := ⟨b, off + k, none⟩) hb).trans hc0
          have HNX : Hid (passS (fs.take (k + 1)) t = f q) := by show _ = _; rw [pass_next fs k f t hf, HP.out]
          have HQC : Hid (checkV m.vars q = 0) := by
            rw [HP.out]
            exact checkV_pass _ _ _ (fun g hg => HRI.out g (List.mem_of_mem_take hg)) HC.out
          obtain ⟨F, caps, rfl, hen, hcl⟩ := hby
          have HEN : Hid (∀ (args : Array Value) (w' : World), Sem.run Tryz.prog (callFunc F args) w' = .ok (.enter F args) w') := hen
          have HCL := hcl q (.slice a q.length c) wr HQC.out HBW2.out HQ.out
          have HCLH : Hid (Calls Tryz.prog F (#[.slice a q.length c] ++ caps) wr fun e w'' => ∃ x, e = .returned x ∧ RArg w'' x (f q) ∧ Below wr.heap.size wr w'') := HCL
          clear hf hc0 hen hcl HCL hb
          go_wp2_with fail
          rw [HEN.out, Oper.upon_enter]
          refine HCLH.out.mono ?_
          rintro e w4 ⟨y, rfl, hy, hb4⟩
          obtain ⟨fq, hfq⟩ : ∃ fq, f q = fq := ⟨_, rfl⟩
          rw [hfq] at hy HNX
          have HY : Hid (RArg w4 y fq) := hy
          obtain ⟨ay, cy, rfl, _, _⟩ := hy
          have hB4 := HBW2.out.trans (hb4.mono HBW2.out.size)
          clear hb4 hfq hc
          go_wp2
          go_roundw
          case rel => exact ⟨k + 1, fq, _, _, by omega, by go_num, rfl, HY, HNX.out.symm, hB4⟩
          case measure => simp [intOf]; omega
        · have HPE : Hid (q = passS fs t) := by
            have h := HP.out
            rwa [List.take_of_length_le (by omega)] at h
          have HR : Hid (RowSub q t) := by rw [HPE.out]; exact pass_row fs t HOK.out
          have hle : sizeS q ≤ z := by rw [← HZ.out]; exact (row_size _ _ HR.out).1
          go_wp2
          go_roundw
          case rel =>
            refine ⟨q, a, c, (z : Int), rfl, rfl, HQ, ?_, ?_, ?_, Or.inr (by omega), by omega, HBW2.out⟩
            · rw [HPE.out]; exact onway_pass fs t (fun f hf => ⟨hf, HOK.out f hf⟩) HW.out
            · rw [HPE.out]; exact checkV_pass _ _ _ HRI.out HC.out
            · intro he
              have he2 : sizeS q = sizeS t := by rw [HZ.out]; omega
              have hqt : q = t := (row_size _ _ HR.out).2 he2
              rw [hqt]
              exact pass_same fs t HOK.out (by rw [← HPE.out]; exact he2)
          case measure =>
            have hlt : leftM (z : Int) < leftM n := left_less z n (by omega) (by omega) (by omega)
            simpa [intOf] using hlt
end Go.Proofs.YtggkbhafbhhhhadGreat
/-
  WALKS: package fix: Cons, Units, Both.
-/
namespace Go.Proofs.YtggkbhafbhhhhadGreat
open Go.RowKit

theorem conS_len (m : Mod) : (conSteps m).length = m.cons.length := by simp [conSteps]
theorem claS_len (l : List Cla) : (claSteps l).length = l.length := by simp [claSteps]
theorem fix_bad (chk : Int) (fs : List (Sto → Sto)) (vs : List MVar) (s : Sto) (h : chk ≠ 0) : FixR chk fs vs s [] chk := ⟨fun _ => ⟨rfl, rfl⟩, fun h0 => absurd h0 h⟩

set_option maxHeartbeats 1600000 in
set_option maxRecDepth 100000 in
theorem fcons_any (m : Mod) (s : Sto) (vs cs v : Value) (w : World) (hm : MArg w vs cs m) (hv : RArg w v s) :
    Calls Tryz.prog 6 #[modV vs cs m, v] w fun e w' => ∃ x er t, e = .returned (.tuple #[x, .int .i64 er]) ∧ RArg w' x t ∧ FixR (checkL m [s]) (conSteps m) m.vars s t er ∧ Below w.heap.size w w' := by
  have HM0 : Hid (MArg w vs cs m) := hm
  have HMA : Hid (∀ w' : World, Below w.heap.size w w' → MArg w' vs cs m) := fun w' h => MArg.below h hm
  have HVA : Hid (∀ w' : World, Below w.heap.size w w' → RArg w' v s) := fun w' h => RArg.below h hv
  obtain ⟨⟨a1, c1, rfl, _, _⟩, ⟨a2, c2, rfl, _, _⟩⟩ := hm
  obtain ⟨a3, c3, rfl, _, _⟩ := hv
  obtain ⟨er, her⟩ : ∃ er, checkL m [s] = er := ⟨_, rfl⟩
  have HER : Hid (checkL m [s] = er) := her
  rw [her]
  clear her
  unfold modV
  go_enter Tryz.func6, Tryz.ntmps6
  go_wp2_with fail
  refine (scheck_any m s (.slice a1 m.vars.length c1) (.slice a2 m.cons.length c2) _ _ ?_ ?_).mono ?_
  · exact HMA.out _ (below_alloc _ _)
  · exact HVA.out _ (below_alloc _ _)
  rintro e w1 ⟨rfl, hb1⟩
  rw [HER.out]
  have d0 : w1.cell? ⟨w.heap.size, 0, none⟩ = some (.slice a1 m.vars.length c1) := (hb1.cell (by simp)).trans (by simp)
  have d1 : w1.cell? ⟨w.heap.size, 1, none⟩ = some (.slice a2 m.cons.length c2) := (hb1.cell (by simp)).trans (by simp)
  have d2 : w1.cell? ⟨w.heap.size, 2, none⟩ = some (.int .i64 m.goal) := (hb1.cell (by simp)).trans (by simp)
  have d3 : w1.cell? ⟨w.heap.size, 3, none⟩ = some (.int .i64 m.var) := (hb1.cell (by simp)).trans (by simp)
  have HB1 : Hid (Below w.heap.size w w1) := (below_alloc _ _).trans (hb1.mono (by simp))
  clear hb1
  by_cases he : er = 0
  · subst he
    obtain ⟨o1, o2⟩ := (checkL_one m s).1 HER.out
    have HO1 : Hid (checkM m = 0) := o1
    have HO2 : Hid (checkV m.vars s = 0) := o2
    clear o1 o2
    go_wp2_with fail
    refine (show Calls Tryz.prog 25 #[.agg #[.slice a1 m.vars.length c1, .slice a2 m.cons.length c2, .int .i64 m.goal, .int .i64 m.var]] w1 _ from bycons_any m (.slice a1 m.vars.length c1) (.slice a2 m.cons.length c2) w w1 HO1.out HM0.out HB1.out).mono ?_
    rintro e w2 ⟨B, cells, rfl, ⟨hB1, hB2⟩, hown, hby, hb2⟩
    have HWA : Hid (WArg (fun t => checkV m.vars t = 0) w2 (.slice (some ⟨B, 0, none⟩) m.cons.length m.cons.length) (conSteps m)) := by
      refine own_ways (base := w1.heap.size) (cells := cells) (by rw [conS_len]; exact hown) fun i f hf => ?_
      obtain ⟨y, hy, h⟩ := hby i f hf
      exact ⟨y, hy, h.plain fun k hk => hk.2.1⟩
    have HB2 : Hid (Below w.heap.size w w2) := HB1.out.trans (hb2.mono HB1.out.size)
    clear hown hby hb2 d0 d1 d2 d3
    go_wp2_with fail
    refine (till_any m (conSteps m) s _ _ _ HO1.out HO2.out (con_steps m HO1.out) (con_right m) (HVA.out _ HB2.out) HWA.out).mono ?_
    rintro e w3 ⟨x, t, rfl, hx, hg, hcv, hb3⟩
    have HX : Hid (RArg w3 x t) := hx
    have HF : Hid (FixR 0 (conSteps m) m.vars s t 0) := ⟨fun h => absurd rfl h, fun _ => ⟨rfl, hg, hcv⟩⟩
    obtain ⟨ax, cx, rfl, _, _⟩ := hx
    have hB3 : Below w.heap.size w w3 := HB2.out.trans (hb3.mono HB2.out.size)
    clear hg hcv hb3
    go_wp2
    go_ret2
    exact ⟨_, 0, t, rfl, HX.out, HF.out, hB3⟩
  · have he2 : (er != 0) = true := by simpa using he
    have HF : Hid (FixR er (conSteps m) m.vars s [] er) := fix_bad _ _ _ _ he
    clear he
    go_wp2
    go_ret2
    exact ⟨_, er, [], rfl, ⟨_, _, rfl, ⟨Nat.le_refl _, Nat.zero_le _⟩, fun i r h => by simp at h⟩, HF.out, HB1.out⟩

set_option maxHeartbeats 1600000 in
set_option maxRecDepth 100000 in
theorem funits_any (m : Mod) (s : Sto) (l : List Cla) (vs cs v u : Value) (w : World) (hm : MArg w vs cs m) (hv : RArg w v s) (hu : LLArg w u l) :
    Calls Tryz.prog 7 #[modV vs cs m, v, u] w fun e w' => ∃ x er t, e = .returned (.tuple #[x, .int .i64 er]) ∧ RArg w' x t ∧ FixR (bothE m s l) (claSteps l) m.vars s t er ∧ Below w.heap.size w w' := by
  have HMA : Hid (∀ w' : World, Below w.heap.size w w' → MArg w' vs cs m) := fun w' h => MArg.below h hm
  have HVA : Hid (∀ w' : World, Below w.heap.size w w' → RArg w' v s) := fun w' h => RArg.below h hv
  have HU0 : Hid (LLArg w u l) := hu
  obtain ⟨⟨a1, c1, rfl, _, _⟩, ⟨a2, c2, rfl, _, _⟩⟩ := hm
  obtain ⟨a3, c3, rfl, _, _⟩ := hv
  obtain ⟨a4, c4, rfl, _, _⟩ := hu
  obtain ⟨er, her⟩ : ∃ er, bothE m s l = er := ⟨_, rfl⟩
  have HER : Hid (bothE m s l = er) := her
  rw [her]
  clear her
  unfold modV
  go_enter Tryz.func7, Tryz.ntmps7
  go_wp2_with fail
  refine (fin_any m s l (.slice a1 m.vars.length c1) (.slice a2 m.cons.length c2) _ _ _ ?_ ?_ ?_).mono ?_
  · exact HMA.out _ (below_alloc _ _)
  · exact HVA.out _ (below_alloc _ _)
  · exact LLArg.below (below_alloc _ _) HU0.out
  rintro e w1 ⟨rfl, hb1⟩
  rw [HER.out]
  have HB1 : Hid (Below w.heap.size w w1) := (below_alloc _ _).trans (hb1.mono (by simp))
  clear hb1
  by_cases he : er = 0
  · subst he
    obtain ⟨o0, o3⟩ := bothE_ok m s l HER.out
    obtain ⟨o1, o2⟩ := (checkL_one m s).1 o0
    have HO1 : Hid (checkM m = 0) := o1
    have HO2 : Hid (checkV m.vars s = 0) := o2
    have HO3 : Hid (clasE m.vars l = 0) := o3
    clear o0 o1 o2 o3
    go_wp2_with fail
    refine (bycla_any m l _ w _ HO1.out HO3.out HU0.out HB1.out).mono ?_
    rintro e w2 ⟨B, cells, rfl, ⟨hB1, hB2⟩, hown, hby, hb2⟩
    have HWA : Hid (WArg (fun t => checkV m.vars t = 0) w2 (.slice (some ⟨B, 0, none⟩) l.length l.length) (claSteps l)) := by
      have h := own_ways (ok := fun t => checkV m.vars t = 0) (fs := claSteps l) (base := w1.heap.size) (cells := cells) (by rw [claS_len]; exact hown) fun i f hf => by
        obtain ⟨y, hy, h⟩ := hby i f hf
        exact ⟨y, hy, h.plain fun k hk => hk.2.1⟩
      exact h
    have HB2 : Hid (Below w.heap.size w w2) := HB1.out.trans (hb2.mono HB1.out.size)
    clear hown hby hb2
    go_wp2_with fail
    refine (till_any m (claSteps l) s _ _ _ HO1.out HO2.out (cla_steps l) (cla_right _ l) (HVA.out _ HB2.out) HWA.out).mono ?_
    rintro e w3 ⟨x, t, rfl, hx, hg, hcv, hb3⟩
    have HX : Hid (RArg w3 x t) := hx
    have HF : Hid (FixR 0 (claSteps l) m.vars s t 0) := ⟨fun h => absurd rfl h, fun _ => ⟨rfl, hg, hcv⟩⟩
    obtain ⟨ax, cx, rfl, _, _⟩ := hx
    have hB3 : Below w.heap.size w w3 := HB2.out.trans (hb3.mono HB2.out.size)
    clear hg hcv hb3
    go_wp2
    go_ret2
    exact ⟨_, 0, t, rfl, HX.out, HF.out, hB3⟩
  · have he2 : (er != 0) = true := by simpa using he
    have HF : Hid (FixR er (claSteps l) m.vars s [] er) := fix_bad _ _ _ _ he
    clear he
    go_wp2
    go_ret2
    exact ⟨_, er, [], rfl, ⟨_, _, rfl, ⟨Nat.le_refl _, Nat.zero_le _⟩, fun i r h => by simp at h⟩, HF.out, HB1.out⟩

/-- Both lists of ways lie there. -/
structure RdyW (m : Mod) (l : List Cla) (N B1 B2 : Nat) (c1 c2 : List Value) (Z : World) : Prop where
  hN : N ≤ B1 ∧ N ≤ Z.heap.size
  own1 : Z.ownsRow N 86 1 (.slice (some ⟨B1, 0, none⟩) l.length l.length) l.length c1
  own2 : Z.ownsRow N 86 1 (.slice (some ⟨B2, 0, none⟩) m.cons.length m.cons.length) m.cons.length c2
  by1 : ∃ S : Nat → Prop, (∀ k, S k → k < Z.heap.size ∧ k ≠ B1) ∧ ∀ (i : Nat) (f : Sto → Sto), (claSteps l)[i]? = some f → ∃ y, c1[i]? = some y ∧ ByS S (fun t => checkV m.vars t = 0) f y Z
  by2 : ∃ S : Nat → Prop, (∀ k, S k → k < Z.heap.size ∧ k ≠ B1) ∧ ∀ (i : Nat) (f : Sto → Sto), (conSteps m)[i]? = some f → ∃ y, c2[i]? = some y ∧ ByS S (fun t => checkV m.vars t = 0) f y Z

theorem rdy1 {m : Mod} {l : List Cla} {N0 N B1 B2 : Nat} {c1 c2 : List Value} {Y wa wb : World} (h0 : N0 ≤ N) (hY : N ≤ Y.heap.size) (hb1 : Y.heap.size ≤ B1 ∧ B1 < wa.heap.size)
    (o1 : wa.ownsRow Y.heap.size 86 1 (.slice (some ⟨B1, 0, none⟩) l.length l.length) l.length c1)
    (y1 : ∀ (i : Nat) (f : Sto → Sto), (claSteps l)[i]? = some f → ∃ y, c1[i]? = some y ∧ ByS (Hangs N0 Y.heap.size wa.heap.size B1) (fun t => checkV m.vars t = 0) f y wa)
    (o2 : wb.ownsRow wa.heap.size 86 1 (.slice (some ⟨B2, 0, none⟩) m.cons.length m.cons.length) m.cons.length c2)
    (y2 : ∀ (i : Nat) (f : Sto → Sto), (conSteps m)[i]? = some f → ∃ y, c2[i]? = some y ∧ ByS (Hangs N0 wa.heap.size wb.heap.size B2) (fun t => checkV m.vars t = 0) f y wb)
    (hb : Below wa.heap.size wa wb) : RdyW m l N B1 B2 c1 c2 wb := by
  have hs := hb.size
  refine ⟨⟨by omega, by omega⟩, own_mono (own_below o1 hb) hY, own_mono o2 (by omega), ⟨Hangs N0 Y.heap.size wa.heap.size B1, fun k hk => ⟨by have := hk.2.1; omega, hk.2.2⟩, fun i f hf => ?_⟩, ⟨Hangs N0 wa.heap.size wb.heap.size B2, fun k hk => ⟨hk.2.1, ?_⟩, y2⟩⟩
  · obtain ⟨y, hy, h⟩ := y1 i f hf
    exact ⟨y, hy, h.keep (KeepS.below hb fun k hk => hk.2.1)⟩
  · rcases hk.1 with h | h
    · omega
    · omega
theorem RdyW.one {m : Mod} {l : List Cla} {N B1 B2 : Nat} {c1 c2 : List Value} {Z : World} (h : RdyW m l N B1 B2 c1 c2 Z) : ∀ u ∈ c2, u.oneCell' = true := by
  intro u hu
  obtain ⟨i, hi⟩ := List.mem_iff_getElem?.1 hu
  have hl : c2.length = m.cons.length := by have := h.own2.1; omega
  have hil : i < (conSteps m).length := by rw [conS_len, ← hl]; exact (List.getElem?_eq_some_iff.1 hi).1
  obtain ⟨S, _, hb⟩ := h.by2
  obtain ⟨y, hy, hby⟩ := hb i _ (List.getElem?_eq_getElem hil)
  rw [hi] at hy; cases hy
  exact hby.one
theorem RdyW.done {m : Mod} {l : List Cla} {N B1 B2 : Nat} {c1 c2 : List Value} {Z w' : World} {v' : Value} (h : RdyW m l N B1 B2 c1 c2 Z) (h2 : w'.ownsRow N 86 1 v' (l.length + m.cons.length) (c1 ++ c2))
    (h3 : Z.grownBy w' (some B1)) : WArg (fun t => checkV m.vars t = 0) w' v' (bothSteps m l) := by
  have hl1 : c1.length = l.length := by have := h.own1.1; omega
  refine own_ways (base := N) (cells := c1 ++ c2) (by unfold bothSteps; rw [List.length_append, claS_len, conS_len]; exact h2) fun i f hf => ?_
  unfold bothSteps at hf
  by_cases hi : i < l.length
  · rw [List.getElem?_append_left (by rw [claS_len]; exact hi)] at hf
    obtain ⟨S, hS, hb⟩ := h.by1
    obtain ⟨y, hy, hby⟩ := hb i f hf
    refine ⟨y, by rw [List.getElem?_append_left (by omega)]; exact hy, ?_⟩
    exact (hby.keep (KeepS.grown h3 fun k hk => ⟨(hS k hk).1, fun e => (hS k hk).2 (Option.some.inj e)⟩)).plain fun k hk => Nat.lt_of_lt_of_le (hS k hk).1 h3.size
  · rw [List.getElem?_append_right (by rw [claS_len]; omega), claS_len] at hf
    obtain ⟨S, hS, hb⟩ := h.by2
    obtain ⟨y, hy, hby⟩ := hb _ f hf
    refine ⟨y, by rw [List.getElem?_append_right (by omega), hl1]; exact hy, ?_⟩
    exact (hby.keep (KeepS.grown h3 fun k hk => ⟨(hS k hk).1, fun e => (hS k hk).2 (Option.some.inj e)⟩)).plain fun k hk => Nat.lt_of_lt_of_le (hS k hk).1 h3.size
theorem held_grown {w1 Z w' : World} {A : Prop} {B1 : Nat} (h : Below w1.heap.size w1 Z ∧ A) (h3 : Z.grownBy w' (some B1)) (hB : w1.heap.size ≤ B1) : Below w1.heap.size w1 w' :=
  h.1.grown h3 h.1.size (fun k hk => by cases hk; exact hB)

set_option maxHeartbeats 3200000 in
set_option maxRecDepth 100000 in
theorem fboth_any (m : Mod) (s : Sto) (l : List Cla) (vs cs v u : Value) (w : World) (hm : MArg w vs cs m) (hv : RArg w v s) (hu : LLArg w u l) :
    Calls Tryz.prog 8 #[modV vs cs m, v, u] w fun e w' => ∃ x er t, e = .returned (.tuple #[x, .int .i64 er]) ∧ RArg w' x t ∧ FixR (bothE m s l) (bothSteps m l) m.vars s t er ∧ Below w.heap.size w w' := by
  have HM0 : Hid (MArg w vs cs m) := hm
  have HMA : Hid (∀ w' : World, Below w.heap.size w w' → MArg w' vs cs m) := fun w' h => MArg.below h hm
  have HVA : Hid (∀ w' : World, Below w.heap.size w w' → RArg w' v s) := fun w' h => RArg.below h hv
  have HU0 : Hid (LLArg w u l) := hu
  obtain ⟨⟨a1, c1, rfl, _, _⟩, ⟨a2, c2, rfl, _, _⟩⟩ := hm
  obtain ⟨a3, c3, rfl, _, _⟩ := hv
  obtain ⟨a4, c4, rfl, _, _⟩ := hu
  obtain ⟨er, her⟩ : ∃ er, bothE m s l = er := ⟨_, rfl⟩
  have HER : Hid (bothE m s l = er) := her
  rw [her]
  clear her
  unfold modV
  go_enter Tryz.func8, Tryz.ntmps8
  go_wp2_with fail
  refine (fin_any m s l (.slice a1 m.vars.length c1) (.slice a2 m.cons.length c2) _ _ _ ?_ ?_ ?_).mono ?_
  · exact HMA.out _ (below_alloc _ _)
  · exact HVA.out _ (below_alloc _ _)
  · exact LLArg.below (below_alloc _ _) HU0.out
  rintro e w1 ⟨rfl, hb1⟩
  rw [HER.out]
  have d0 : w1.cell? ⟨w.heap.size, 0, none⟩ = some (.slice a1 m.vars.length c1) := (hb1.cell (by simp)).trans (by simp)
  have d1 : w1.cell? ⟨w.heap.size, 1, none⟩ = some (.slice a2 m.cons.length c2) := (hb1.cell (by simp)).trans (by simp)
  have d2 : w1.cell? ⟨w.heap.size, 2, none⟩ = some (.int .i64 m.goal) := (hb1.cell (by simp)).trans (by simp)
  have d3 : w1.cell? ⟨w.heap.size, 3, none⟩ = some (.int .i64 m.var) := (hb1.cell (by simp)).trans (by simp)
  have hs1 : w.heap.size < w1.heap.size := by have h := hb1.size; simp at h; omega
  have HB1 : Hid (Below w.heap.size w w1) := (below_alloc _ _).trans (hb1.mono (by simp))
  clear hb1
  by_cases he : er = 0
  · subst he
    obtain ⟨o0, o3⟩ := bothE_ok m s l HER.out
    obtain ⟨o1, o2⟩ := (checkL_one m s).1 o0
    have HO1 : Hid (checkM m = 0) := o1
    have HO2 : Hid (checkV m.vars s = 0) := o2
    have HO3 : Hid (clasE m.vars l = 0) := o3
    have hc8 : m.cons.length ≤ 8 := (checkM_vars m o1).2.2.1
    have hl600 : l.length ≤ 600 := (clasE_ok _ _ o3).1
    obtain ⟨i0, hi, hz0, hz1, hz2⟩ := info_parts Tryz.infoBy
    have HCLA : Hid (∀ Y : World, Below w1.heap.size w1 Y → Calls Tryz.prog 27 #[.slice a4 l.length c4] Y fun e w' => ∃ (B : Nat) (cells : List Value), e = .returned (.slice (some ⟨B, 0, none⟩) l.length l.length) ∧ (Y.heap.size ≤ B ∧ B < w'.heap.size) ∧
      w'.ownsRow Y.heap.size 86 1 (.slice (some ⟨B, 0, none⟩) l.length l.length) l.length cells ∧
      (∀ (i : Nat) (f : Sto → Sto), (claSteps l)[i]? = some f → ∃ y, cells[i]? = some y ∧ ByS (Hangs w.heap.size Y.heap.size w'.heap.size B) (fun t => checkV m.vars t = 0) f y w') ∧ Below Y.heap.size Y w') :=
      fun Y hY => bycla_any m l _ w Y HO1.out HO3.out HU0.out (HB1.out.trans (hY.mono HB1.out.size))
    have HCON : Hid (∀ Y : World, Below w1.heap.size w1 Y → Calls Tryz.prog 25 #[.agg #[.slice a1 m.vars.length c1, .slice a2 m.cons.length c2, .int .i64 m.goal, .int .i64 m.var]] Y fun e w' => ∃ (B : Nat) (cells : List Value), e = .returned (.slice (some ⟨B, 0, none⟩) m.cons.length m.cons.length) ∧ (Y.heap.size ≤ B ∧ B < w'.heap.size) ∧
      w'.ownsRow Y.heap.size 86 1 (.slice (some ⟨B, 0, none⟩) m.cons.length m.cons.length) m.cons.length cells ∧
      (∀ (i : Nat) (f : Sto → Sto), (conSteps m)[i]? = some f → ∃ y, cells[i]? = some y ∧ ByS (Hangs w.heap.size Y.heap.size w'.heap.size B) (fun t => checkV m.vars t = 0) f y w') ∧ Below Y.heap.size Y w') :=
      fun Y hY => bycons_any m (.slice a1 m.vars.length c1) (.slice a2 m.cons.length c2) w Y HO1.out HM0.out (HB1.out.trans (hY.mono HB1.out.size))
    have HTIL : Hid (∀ (Y : World) (u : Value), Below w1.heap.size w1 Y → WArg (fun t => checkV m.vars t = 0) Y u (bothSteps m l) → Calls Tryz.prog 24 #[.slice a3 s.length c3, u] Y fun e w' => ∃ x t, e = .returned x ∧ RArg w' x t ∧ Greatest (bothSteps m l) s t ∧ checkV m.vars t = 0 ∧ Below Y.heap.size Y w') :=
      fun Y u hY hu => till_any m (bothSteps m l) s _ u Y HO1.out HO2.out (both_steps m l HO1.out) (both_right m l) (HVA.out _ (HB1.out.trans (hY.mono HB1.out.size))) hu
    clear o0 o1 o2 o3
    go_wp2_with fail
    go_region_held3 (fun w' => Below w1.heap.size w1 w' ∧ w'.cell? ⟨w.heap.size, 0, none⟩ = some (.slice a1 m.vars.length c1) ∧ w'.cell? ⟨w.heap.size, 1, none⟩ = some (.slice a2 m.cons.length c2) ∧ w'.cell? ⟨w.heap.size, 2, none⟩ = some (.int .i64 m.goal) ∧ w'.cell? ⟨w.heap.size, 3, none⟩ = some (.int .i64 m.var))
      ((refine (fun (hB : Below w1.heap.size w1 _) => ⟨hB, (hB.cell (p := ⟨w.heap.size, 0, none⟩) hs1).trans d0, (hB.cell (p := ⟨w.heap.size, 1, none⟩) hs1).trans d1, (hB.cell (p := ⟨w.heap.size, 2, none⟩) hs1).trans d2, (hB.cell (p := ⟨w.heap.size, 3, none⟩) hs1).trans d3⟩ : Below w1.heap.size w1 _ → _) ?_; first | exact (Below.refl _ _).drew | exact hBt | exact hBp | exact hBb | exact hBa))
      (first
        | (go_at_call 27; refine (HCLA.out _ (show Below w1.heap.size w1 _ ∧ _ ∧ _ ∧ _ ∧ _ by assumption).1).mono ?_; rintro e wa ⟨B1, k1, rfl, hl1, ho1, hy1, hbq⟩; have hBa := held_call (by assumption) hbq)
        | (go_at_call 25; refine (HCON.out _ (show Below w1.heap.size w1 _ ∧ _ ∧ _ ∧ _ ∧ _ by assumption).1).mono ?_; rintro e wb ⟨B2, k2, rfl, hl2, ho2, hy2, hbq⟩; have hrdy := rdy1 (N := w1.heap.size) (Y := w1.drew) (Nat.le_of_lt hs1) (Nat.le_refl _) hl1 ho1 hy1 ho2 hy2 hbq; have hBb := held_call (by assumption) hbq)
        | (go_at_call 24; refine (HTIL.out _ _ (show Below w1.heap.size w1 _ ∧ _ ∧ _ ∧ _ ∧ _ by assumption).1 hway).mono ?_; rintro e wt ⟨x, t, rfl, hx, hg, hcv, hbq⟩; have hBt := held_call (by assumption) hbq; have HX : Hid (RArg wt x t) := hx; obtain ⟨ax, cx, rfl, _, _⟩ := hx)
        | (rw [if_pos (by rfl)]; refine wp_append_own _ _ _ 50 rfl w1.heap.size 86 i0 .nilFunc 1 8 Tryz.underBys hi hz0 hz1 hz2 rfl (by decide) _ _ _ rfl hrdy.own1 ⟨B2, 0, none⟩ _ _ _ rfl hrdy.own2.1 (hrdy.own2.cells rfl) hrdy.one (by unfold maxLen; omega) (by omega) hrdy.hN.2 ?_; intro v' wp hop hgp hnp; have hBp := held_grown (by assumption) hgp hrdy.hN.1; have hway := hrdy.done hop hgp))
    all_goals
      have HF : Hid (FixR 0 (bothSteps m l) m.vars s t 0) := ⟨fun h => absurd rfl h, fun _ => ⟨rfl, hg, hcv⟩⟩
      have hBe : Below w.heap.size w wt := HB1.out.trans (hBt.mono HB1.out.size)
      go_wp2
      go_ret2
      exact ⟨_, 0, t, rfl, HX.out, HF.out, hBe⟩
  · have he2 : (er != 0) = true := by simpa using he
    have HF : Hid (FixR er (bothSteps m l) m.vars s [] er) := fix_bad _ _ _ _ he
    clear he
    go_wp2
    go_ret2
    exact ⟨_, er, [], rfl, ⟨_, _, rfl, ⟨Nat.le_refl _, Nat.zero_le _⟩, fun i r h => by simp at h⟩, HF.out, HB1.out⟩
end Go.Proofs.YtggkbhafbhhhhadGreat
/-
  WALKS: package store: Begin.
-/
namespace Go.Proofs.YtggkbhafbhhhhadGreat
open Go.RowKit

def spanN (lo : Int) (j : Nat) : List Int := (List.range j).map fun (k : Nat) => lo + (k : Int)
theorem spanN_next (lo : Int) (j : Nat) : spanN lo (j + 1) = spanN lo j ++ [lo + j] := by simp [spanN, List.range_succ]
theorem spanN_len (lo : Int) (j : Nat) : (spanN lo j).length = j := by simp [spanN]
theorem spanR_eq (lo hi : Int) : spanR lo hi = spanN lo (hi + 1 - lo).toNat := rfl
theorem checkL_nil (m : Mod) : checkL m [] = checkM m := by
  unfold checkL; simp only [List.map_nil, firstE]
  by_cases h : checkM m = 0
  · rw [if_pos h, h]
  · rw [if_neg h]
def beginA (m : Mod) : Sto × Int := if checkM m = 0 then (beginS m.vars, 0) else ([], checkM m)

set_option maxHeartbeats 1600000 in
set_option maxRecDepth 100000 in
theorem sbegin_any (m : Mod) (vs cs : Value) (w : World) (hm : MArg w vs cs m) :
    Calls Tryz.prog 46 #[modV vs cs m] w fun e w' => ∃ x, e = .returned (.tuple #[x, .int .i64 (beginA m).2]) ∧ RArg w' x (beginA m).1 ∧ Below w.heap.size w w' := by
  have HMA : Hid (∀ w' : World, Below w.heap.size w w' → MArg w' vs cs m) := fun w' h => MArg.below h hm
  obtain ⟨⟨a1, c1, rfl, hl1, hr1⟩, ⟨a2, c2, rfl, _, _⟩⟩ := hm
  have HV1 : Hid (∀ (i : Nat) (t : MVar), m.vars[i]? = some t → t.name.size ≤ maxLen ∧ ∃ b off, a1 = some ⟨b, off, none⟩ ∧ b < w.heap.size ∧
    w.cell? ⟨b, off + i * 3, none⟩ = some (.string t.name) ∧ w.cell? ⟨b, off + i * 3 + 1, none⟩ = some (.int .i64 t.lo) ∧ w.cell? ⟨b, off + i * 3 + 2, none⟩ = some (.int .i64 t.hi)) := hr1
  unfold maxLen at hl1
  obtain ⟨hl11, hl1⟩ := hl1
  obtain ⟨R, hR⟩ : ∃ R, beginA m = R := ⟨_, rfl⟩
  rw [hR]
  obtain ⟨er, her⟩ : ∃ er, checkM m = er := ⟨_, rfl⟩
  have HER : Hid (checkL m [] = er) := by rw [checkL_nil]; exact her
  have HE : Hid (R = if er = 0 then (beginS m.vars, 0) else ([], er)) := by rw [← hR, ← her]; rfl
  have HOK : Hid (er = 0 → checkM m = 0) := by intro h0; rw [her]; exact h0
  clear hR her hr1
  unfold modV
  go_enter Tryz.func46, Tryz.ntmps46
  go_wp2_with fail
  refine (check_any2 m [] (.slice a1 m.vars.length c1) (.slice a2 m.cons.length c2) _ _ ?_ ?_).mono ?_
  · exact HMA.out _ (below_alloc _ _)
  · exact ⟨_, _, rfl, ⟨Nat.le_refl _, Nat.zero_le _⟩, fun i r h => by simp at h⟩
  rintro e w1 ⟨rfl, hb1⟩
  rw [HER.out]
  have HB1 : Hid (Below w.heap.size w w1) := (below_alloc _ _).trans (hb1.mono (by simp))
  have d0 : w1.cell? ⟨w.heap.size, 0, none⟩ = some (.slice a1 m.vars.length c1) := (hb1.cell (by simp)).trans (by simp)
  have hs1 : w.heap.size + 1 ≤ w1.heap.size := by simpa using hb1.size
  clear hb1
  by_cases he : er = 0
  · subst he
    have HOK2 : Hid (checkM m = 0) := HOK.out rfl
    have hn : m.vars.length ≤ 6 := (checkM_vars m HOK2.out).2.1
    have HE2 : Hid (R = (beginS m.vars, 0)) := by rw [HE.out, if_pos rfl]; rfl
    obtain ⟨wm, hrun, hrows, hbm⟩ := make_store m.vars.length hn w1
    have HROWS : Hid (∀ M, SRows wm w1.heap.size w1.heap.size m.vars.length (List.replicate m.vars.length (.slice none 0 0)) M 0) := hrows
    have HBM : Hid (Below w.heap.size w wm) := HB1.out.trans (hbm.mono (by omega))
    have d1 : wm.cell? ⟨w.heap.size, 0, none⟩ = some (.slice a1 m.vars.length c1) := (hbm.cell (p := ⟨w.heap.size, 0, none⟩) (by simp only; omega)).trans d0
    obtain ⟨B, hB⟩ : ∃ B, B = w1.heap.size := ⟨_, rfl⟩
    rw [← hB] at hrun HROWS
    have hBw : w.heap.size ≤ B := by omega
    obtain ⟨i0, hi, hz0, hz1, hz2⟩ := info_parts Tryz.infoInt
    clear hrows hbm hB hs1
    go_wp2_with fail
    clear hrun d0 d1
    go_loopw [21] (fun i wr => ∃ (k : Nat) (cells : List Value), k ≤ m.vars.length ∧ i = .int .i64 k ∧ SRows wr B B m.vars.length cells (beginS m.vars) k ∧ Below w.heap.size w wr) (fun i _ => m.vars.length - (intOf i).toNat)
    case atStart => exact ⟨0, _, by omega, rfl, HROWS.out _, HBM.out⟩
    case round =>
      obtain ⟨k, cells, hk, rfl, hrow, hbw⟩ := hrel
      have HROW : Hid (SRows wr B B m.vars.length cells (beginS m.vars) k) := hrow
      have HBW : Hid (Below w.heap.size w wr) := hbw
      clear hrow hbw
      by_cases hlt : k < m.vars.length
      · obtain ⟨t, ht⟩ : ∃ t, m.vars[k]? = some t := ⟨m.vars[k], by simp [hlt]⟩
        have HM : Hid ((beginS m.vars)[k]? = some (spanN t.lo (t.hi + 1 - t.lo).toNat)) := by show _ = _; unfold beginS; rw [List.getElem?_map, ht]; rfl
        obtain ⟨hlo, hhi, hlh, h6⟩ := var_ok m HOK2.out k t ht
        obtain ⟨_, b, off, hax, hb, e0, e1, e2⟩ := HV1.out k t ht
        subst hax
        have f0 := (HBW.out.cell (p := ⟨b, off + k * 3, none⟩) hb).trans e0
        have f1 := (HBW.out.cell (p := ⟨b, off + k * 3 + 1, none⟩) hb).trans e1
        have f2 := (HBW.out.cell (p := ⟨b, off + k * 3 + 2, none⟩) hb).trans e2
        have hszb : w.heap.size ≤ wr.heap.size := HBW.out.size
        have HBL : Hid (B < wr.heap.size) := (HROW.out.1.lt B rfl).2
        clear ht e0 e1 e2 hb
        obtain ⟨wx, hwx⟩ : ∃ wx : World, wx = wr.alloc (.cells #[.string t.name, .int .i64 t.lo, .int .i64 t.hi] 72) := ⟨_, rfl⟩
        have HKX : Hid (SRowsIn wx B B m.vars.length cells (beginS m.vars) k wx.heap.size []) := by rw [hwx]; exact (HROW.out.kept (below_alloc _ _)).into hlt
        have HBX : Hid (Below w.heap.size w wx) := by rw [hwx]; exact HBW.out.alloc hszb _
        have HSX : Hid (wx.heap.size = wr.heap.size + 1) := by show _ = _; rw [hwx]; simp
        have HCX : Hid (wx.cell? ⟨wr.heap.size, 2, none⟩ = some (.int .i64 t.hi)) := by rw [hwx]; show _ = _; simp
        have HWX : Hid (wx = wr.alloc (.cells #[.string t.name, .int .i64 t.lo, .int .i64 t.hi] 72)) := hwx
        clear hwx
        obtain ⟨bv, HBV⟩ : ∃ bv, Hid (bv = wr.heap.size) := ⟨_, rfl⟩
        obtain ⟨wo, rfl⟩ : ∃ wo : World, wo = wr := ⟨_, rfl⟩
        go_wp2_with fail
        rw [← HWX.out, ← HBV.out]
        rw [← HBV.out] at HCX HSX HBL
        clear f0 f1 f2 HWX HBV HROW HBW hszb
        obtain ⟨K, hK⟩ : ∃ K, K = wx.heap.size := ⟨_, rfl⟩
        rw [← hK] at HKX
        have hbvK : bv < K := by have := HSX.out; omega
        clear hK
        go_loopw [8] (fun i wr => ∃ (j : Nat) (cells : List Value), t.lo + (j : Int) ≤ t.hi + 1 ∧ i = .int .i64 (t.lo + (j : Int)) ∧ SRowsIn wr B B m.vars.length cells (beginS m.vars) k K (spanN t.lo j) ∧ Below w.heap.size w wr ∧ wr.cell? ⟨bv, 2, none⟩ = some (.int .i64 t.hi)) (fun i _ => (t.hi + 1 - intOf i).toNat)
        case atStart => exact ⟨0, cells, by omega, by simp, HKX.out, HBX.out, HCX.out⟩
        case round =>
          obtain ⟨j, cells, hj, rfl, hin, hbw, hcv⟩ := hrel
          have HIN2 : Hid (SRowsIn wr B B m.vars.length cells (beginS m.vars) k K (spanN t.lo j)) := hin
          have HBW2 : Hid (Below w.heap.size w wr) := hbw
          clear hin hbw
          by_cases hlj : t.lo + (j : Int) ≤ t.hi
          · obtain ⟨z, hz⟩ : ∃ z, z = t.lo + (j : Int) := ⟨_, rfl⟩
            have HZ : Hid (z = t.lo + (j : Int)) := hz
            have hz1' : -50 ≤ z := by omega
            have hz2' : z ≤ t.hi := by omega
            have hz3' : z ≤ 50 := by omega
            have HN : Hid (spanN t.lo (j + 1) = spanN t.lo j ++ [z]) := by rw [hz]; exact spanN_next t.lo j
            obtain ⟨acc, hacc⟩ : ∃ acc, spanN t.lo j = acc := ⟨_, rfl⟩
            have hal : acc.length ≤ 6 := by rw [← hacc, spanN_len]; omega
            rw [hacc] at HN HIN2
            rw [← hz]
            have HJ : Hid (t.lo + ((j + 1 : Nat) : Int) ≤ t.hi + 1) := by show _ ≤ _; omega
            clear hacc hz hlj hj
            obtain ⟨htop, _, ⟨x, hx, hox⟩, _, hBK, hKw, _⟩ := HIN2.out
            obtain ⟨ax, cx, rfl⟩ := own_form hox
            have HX : Hid (cells[k]? = some (.slice ax acc.length cx)) := hx
            have hcx : wr.cell? ⟨B, k, none⟩ = some (.slice ax acc.length cx) := by rw [htop.cellAt k (by omega)]; exact hx
            have hlB : B < wr.heap.size := by omega
            clear hx
            go_wp2_with (at_builtin; refine wpList_append_own _ rfl _ _ 39 rfl K 3 i0 (.int .i64 0) 1 8 Tryz.underlying39 hi hz0 hz1 hz2 rfl (by decide) _ _ _ rfl (hox.alloc _) ⟨wr.heap.size, 0, none⟩ 1 1 [.int .i64 z] rfl rfl ?c1 ?c2 ?c3 ?c4 ?c5 ?_)
            case c1 => exact one_laid wr z
            case c2 => intro u hu; rcases List.mem_singleton.1 hu with rfl; rfl
            case c3 => unfold maxLen; omega
            case c4 => omega
            case c5 => simp; omega
            intro v3 w3 hown3 hgrow _
            have hown4 : w3.ownsRow K 3 1 v3 (acc ++ [z]).length ((acc ++ [z]).map (Value.int .i64)) := by
              rw [List.length_append, List.map_append]; exact hown3
            have HPUSH : Hid (SRowsIn (w3.setCell ⟨B, k, none⟩ v3) B B m.vars.length (cells.set k v3) (beginS m.vars) k K (acc ++ [z])) := (HIN2.out.kept (below_alloc _ _)).push HX.out hown4 hgrow
            have HB3 : Hid (Below w.heap.size w (w3.setCell ⟨B, k, none⟩ v3)) :=
              ((HBW2.out.alloc HBW2.out.size _).grown hgrow (by have := HBW2.out.size; simp; omega) (fun g h => by have := (hox.lt g h).1; omega)).setCell (by simp only; omega) _
            have ht3 : w3.ownsRow B 39 1 (.slice (some ⟨B, 0, none⟩) m.vars.length m.vars.length) m.vars.length cells := (htop.alloc _).kept hgrow (Or.inr (fun h => by have := (hox.lt B h.symm).1; omega))
            have hcB : w3.cell? ⟨B, k, none⟩ = some (.slice ax acc.length cx) := by rw [ht3.cellAt k (by omega)]; exact HX.out
            have hfB : w3.frozen? ⟨B, k, none⟩ = false := ht3.frozenAt k
            have hc3 : w3.cell? ⟨bv, 2, none⟩ = some (.int .i64 t.hi) := hgrow.cell ((World.cell?_alloc_past _ _ _ (by omega)).trans hcv) (fun h => by have := (hox.lt bv h.symm).1; omega)
            obtain ⟨av, cv, rfl⟩ := own_form hown4
            rw [show (acc ++ [z]).length = acc.length + 1 by simp] at HPUSH HB3
            clear hown3 hgrow hown4 hox hcx htop ht3
            go_wp2
            go_roundw
            case rel => exact ⟨j + 1, _, HJ.out, by rw [HZ.out]; go_num, by rw [HN.out]; exact HPUSH.out, HB3.out, (World.cell?_of_block (Below.heap_setCell _ _ _ _ (by have := HBL.out; simp only; omega))).trans hc3⟩
            case measure => simp [intOf]; omega
          · have HN : Hid (spanN t.lo j = spanN t.lo (t.hi + 1 - t.lo).toNat) := by show _ = _; rw [show j = (t.hi + 1 - t.lo).toNat by omega]
            have HD : Hid (SRows wr B B m.vars.length cells (beginS m.vars) (k + 1)) := HIN2.out.done (by rw [HN.out]; exact HM.out)
            go_wp2
            go_roundw
            case rel => exact ⟨k + 1, cells, by omega, by go_num, HD.out, HBW2.out⟩
            case measure => simp [intOf]; omega
      · have hks : k = m.vars.length := by omega
        have HF : Hid (RArg wr (.slice (some ⟨B, 0, none⟩) m.vars.length m.vars.length) (beginS m.vars)) := by
          have h := HROW.out
          rw [hks] at h
          exact h.rarg (by simp [beginS])
        clear hks
        go_wp2
        go_ret2
        rw [HE2.out]
        exact ⟨_, rfl, HF.out, HBW.out⟩
  · have HN : Hid (R = ([], er)) := by rw [HE.out, if_neg he]; rfl
    have he2 : (er != 0) = true := by simpa using he
    clear he
    go_wp2
    go_ret2
    rw [HN.out]
    exact ⟨_, rfl, ⟨_, _, rfl, ⟨Nat.le_refl _, Nat.zero_le _⟩, fun i r h => by simp at h⟩, HB1.out⟩
end Go.Proofs.YtggkbhafbhhhhadGreat
/-
  WALK: the reference's SameInts.
-/
namespace Go.Proofs.YtggkbhafbhhhhadGreat
open Go.RowKit

theorem take_same {α : Type} (a b : List α) (m : Nat) (x : α) (h : a.take m = b.take m) (ha : a[m]? = some x) (hb : b[m]? = some x) : a.take (m + 1) = b.take (m + 1) := by
  rw [List.take_add_one, List.take_add_one, h, ha, hb]
theorem same_end {α : Type} (a b : List α) (m : Nat) (h : a.take m = b.take m) (ha : ¬ m < a.length) (hl : a.length = b.length) : a = b := by
  rwa [List.take_of_length_le (by omega), List.take_of_length_le (by omega)] at h
theorem not_same {α : Type} (a b : List α) (m : Nat) (x y : α) (ha : a[m]? = some x) (hb : b[m]? = some y) (h : x ≠ y) : a ≠ b := by
  intro e; subst e; rw [ha] at hb; cases hb; exact h rfl

set_option maxHeartbeats 800000 in
set_option maxRecDepth 100000 in
theorem sameints_any (l k : List Int) (v u : Value) (w : World) (hv : IArg w v l) (hu : IArg w u k) :
    Calls Tryz.prog 39 #[v, u] w fun e w' => e = .returned (.bool (decide (l = k))) ∧ ∃ n, w' = w.drewN n := by
  obtain ⟨a, c, rfl, hm, hr⟩ := hv
  obtain ⟨a', c', rfl, hm', hr'⟩ := hu
  have HV : Hid (∀ (i : Nat) (z : Int), l[i]? = some z → ∃ b off, a = some ⟨b, off, none⟩ ∧ b < w.heap.size ∧ w.cell? ⟨b, off + i, none⟩ = some (.int .i64 z)) := hr
  have HV' : Hid (∀ (i : Nat) (z : Int), k[i]? = some z → ∃ b off, a' = some ⟨b, off, none⟩ ∧ b < w.heap.size ∧ w.cell? ⟨b, off + i, none⟩ = some (.int .i64 z)) := hr'
  obtain ⟨R, hR⟩ : ∃ R, decide (l = k) = R := ⟨_, rfl⟩
  rw [hR]
  have HR : Hid (decide (l = k) = R) := hR
  unfold maxLen at hm hm'
  obtain ⟨hm1, hm⟩ := hm
  obtain ⟨hm1', hm'⟩ := hm'
  clear hr hr' hR
  by_cases hl : l.length = k.length
  · have HL : Hid (l.length = k.length) := hl
    have g0 : ((l.length : Int) != (k.length : Int)) = false := by simp [hl]
    clear hl
    go_enter Tryz.func39, Tryz.ntmps39
    go_wp2_with fail
    go_loopw [5] (fun i wr => ∃ m : Nat, m ≤ l.length ∧ i = .int .i64 m ∧ Hid (l.take m = k.take m) ∧ ∃ n, wr = w.drewN n) (fun i _ => l.length - (intOf i).toNat)
    case atStart => exact ⟨0, by omega, rfl, rfl, 0, rfl⟩
    case round =>
      obtain ⟨m, hml, rfl, hall, nq, rfl⟩ := hrel
      by_cases hlt : m < l.length
      · have hlt' : m < k.length := by rw [← HL.out]; exact hlt
        obtain ⟨x, hx⟩ : ∃ x, l[m]? = some x := ⟨l[m], by simp [hlt]⟩
        obtain ⟨y, hy⟩ : ∃ y, k[m]? = some y := ⟨k[m], by simp [hlt']⟩
        obtain ⟨b, off, ha, hb, hc⟩ := HV.out m x hx
        obtain ⟨b', off', ha', hb', hd⟩ := HV'.out m y hy
        have HX : Hid (l[m]? = some x) := hx
        have HY : Hid (k[m]? = some y) := hy
        subst ha; subst ha'
        clear hx hy
        by_cases hq : x = y
        · subst hq
          have HN : Hid (l.take (m + 1) = k.take (m + 1)) := take_same l k m x hall.out HX.out HY.out
          go_wp2
          go_quiet (fail)
          go_wp2
          go_roundw
          case rel => exact ⟨m + 1, by omega, by go_num, HN, _, rfl⟩
          case measure => simp [intOf]; omega
        · have HN : Hid (R = false) := by rw [← HR.out]; exact decide_eq_false (not_same l k m x y HX.out HY.out hq)
          have hq2 : (x != y) = true := by simpa using hq
          clear hq
          go_wp2
          go_quiet (fail)
          go_wp2
          go_ret
          exact ⟨ret_bool HN.out.symm, _, drewN_drewN _ _ _⟩
      · have HN : Hid (R = true) := by rw [← HR.out]; exact decide_eq_true (same_end l k m hall.out hlt HL.out)
        go_wp2
        go_ret
        exact ⟨ret_bool HN.out.symm, _, rfl⟩
  · have HN : Hid (R = false) := by rw [← HR.out]; exact decide_eq_false (fun h => hl (by rw [h]))
    have g0 : ((l.length : Int) != (k.length : Int)) = true := by simp; omega
    clear hl
    go_enter Tryz.func39, Tryz.ntmps39
    go_wp2
    go_ret
    exact ⟨ret_bool HN.out.symm, 0, rfl⟩

end Go.Proofs.YtggkbhafbhhhhadGreat
/-
  WALK: the reference's SameStore.
-/
namespace Go.Proofs.YtggkbhafbhhhhadGreat
open Go.RowKit

set_option maxHeartbeats 800000 in
set_option maxRecDepth 100000 in
theorem samestore_any (s t : Sto) (v u : Value) (w : World) (hv : RArg w v s) (hu : RArg w u t) :
    Calls Tryz.prog 21 #[v, u] w fun e w' => e = .returned (.bool (decide (s = t))) ∧ ∃ n, w' = w.drewN n := by
  obtain ⟨a, c, rfl, hm, hr⟩ := hv
  obtain ⟨a', c', rfl, hm', hr'⟩ := hu
  have HV : Hid (∀ (i : Nat) (r : List Int), s[i]? = some r → ∃ b off x, a = some ⟨b, off, none⟩ ∧ b < w.heap.size ∧ w.cell? ⟨b, off + i, none⟩ = some x ∧ IArg w x r) := hr
  have HV' : Hid (∀ (i : Nat) (r : List Int), t[i]? = some r → ∃ b off x, a' = some ⟨b, off, none⟩ ∧ b < w.heap.size ∧ w.cell? ⟨b, off + i, none⟩ = some x ∧ IArg w x r) := hr'
  obtain ⟨R, hR⟩ : ∃ R, decide (s = t) = R := ⟨_, rfl⟩
  rw [hR]
  have HR : Hid (decide (s = t) = R) := hR
  unfold maxLen at hm hm'
  obtain ⟨hm1, hm⟩ := hm
  obtain ⟨hm1', hm'⟩ := hm'
  clear hr hr' hR
  by_cases hl : s.length = t.length
  · have HL : Hid (s.length = t.length) := hl
    have g0 : ((s.length : Int) != (t.length : Int)) = false := by simp [hl]
    clear hl
    go_enter Tryz.func21, Tryz.ntmps21
    go_wp2_with fail
    go_loopw [5] (fun i wr => ∃ m : Nat, m ≤ s.length ∧ i = .int .i64 m ∧ Hid (s.take m = t.take m) ∧ ∃ n, wr = w.drewN n) (fun i _ => s.length - (intOf i).toNat)
    case atStart => exact ⟨0, by omega, rfl, rfl, 0, rfl⟩
    case round =>
      obtain ⟨m, hml, rfl, hall, nq, rfl⟩ := hrel
      by_cases hlt : m < s.length
      · have hlt' : m < t.length := by rw [← HL.out]; exact hlt
        obtain ⟨x, hx⟩ : ∃ x, s[m]? = some x := ⟨s[m], by simp [hlt]⟩
        obtain ⟨y, hy⟩ : ∃ y, t[m]? = some y := ⟨t[m], by simp [hlt']⟩
        obtain ⟨b, off, vx, ha, hb, hc, hix⟩ := HV.out m x hx
        obtain ⟨b', off', vy, ha', hb', hd, hiy⟩ := HV'.out m y hy
        have HX : Hid (s[m]? = some x) := hx
        have HY : Hid (t[m]? = some y) := hy
        have HIX : Hid (IArg w vx x) := hix
        have HIY : Hid (IArg w vy y) := hiy
        obtain ⟨a5, c5, rfl, _, _⟩ := hix
        obtain ⟨a6, c6, rfl, _, _⟩ := hiy
        subst ha; subst ha'
        clear hx hy
        have HS : Hid (∀ p q, Calls Tryz.prog 39 #[.slice a5 x.length c5, .slice a6 y.length c6] (w.drewN (p + q)) fun e w' => e = .returned (.bool (decide (x = y))) ∧ ∃ n, w' = w.drewN (p + n)) := by
          intro p q
          refine (sameints_any x y _ _ (w.drewN (p + q)) HIX.out HIY.out).mono ?_
          rintro e w' ⟨rfl, n, rfl⟩
          exact ⟨rfl, q + n, by rw [drewN_drewN, Nat.add_assoc]⟩
        by_cases hq : x = y
        · have hq2 : decide (x = y) = true := decide_eq_true hq
          have HN : Hid (s.take (m + 1) = t.take (m + 1)) := take_same s t m x hall.out HX.out (by rw [hq]; exact HY.out)
          rw [hq2] at HS
          clear hq hq2
          go_wp2
          go_quiet ((go_at_call 39; exact HS.out _ _))
          go_wp2
          go_roundw
          case rel => exact ⟨m + 1, by omega, by go_num, HN, _, rfl⟩
          case measure => simp [intOf]; omega
        · have hq2 : decide (x = y) = false := decide_eq_false hq
          have HN : Hid (R = false) := by rw [← HR.out]; exact decide_eq_false (not_same s t m x y HX.out HY.out hq)
          rw [hq2] at HS
          clear hq hq2
          go_wp2
          go_quiet ((go_at_call 39; exact HS.out _ _))
          go_wp2
          go_ret
          exact ⟨ret_bool HN.out.symm, _, drewN_drewN _ _ _⟩
      · have HN : Hid (R = true) := by rw [← HR.out]; exact decide_eq_true (same_end s t m hall.out hlt HL.out)
        go_wp2
        go_ret
        exact ⟨ret_bool HN.out.symm, _, rfl⟩
  · have HN : Hid (R = false) := by rw [← HR.out]; exact decide_eq_false (fun h => hl (by rw [h]))
    have g0 : ((s.length : Int) != (t.length : Int)) = true := by simp; omega
    clear hl
    go_enter Tryz.func21, Tryz.ntmps21
    go_wp2
    go_ret
    exact ⟨ret_bool HN.out.symm, 0, rfl⟩
end Go.Proofs.YtggkbhafbhhhhadGreat
/-
  WALK: storeBegun.
-/
namespace Go.Proofs.YtggkbhafbhhhhadGreat
open Go.RowKit

/-- A store of two rows, written out. -/
theorem lit2 {w : World} (a b : List Int) (B1 B2 B3 : Nat) (h1 : B1 = w.heap.size) (h2 : B2 = w.heap.size + 1) (h3 : B3 = w.heap.size + 2) (ha : a.length ≤ 100) (hb : b.length ≤ 100) :
    RArg (((w.alloc (.cells (a.map (Value.int .i64)).toArray 3)).alloc (.cells (b.map (Value.int .i64)).toArray 3)).alloc (.cells #[.slice (some ⟨B1, 0, none⟩) a.length a.length, .slice (some ⟨B2, 0, none⟩) b.length b.length] 39)) (.slice (some ⟨B3, 0, none⟩) 2 2) [a, b] := by
  subst h1; subst h2; subst h3
  refine ⟨_, 2, rfl, ⟨by simp, by unfold maxLen; omega⟩, fun i r hr => ?_⟩
  match i, hr with
  | 0, hr =>
    cases hr
    refine ⟨_, 0, _, rfl, by simp, World.cell?_alloc_at _ _ _ _ (by simp), ⟨_, _, rfl, ⟨Nat.le_refl _, by unfold maxLen; omega⟩, fun j z hz => ⟨_, 0, rfl, by simp; omega, ?_⟩⟩⟩
    rw [World.cell?_alloc_past _ _ _ (by simp; omega), World.cell?_alloc_past _ _ _ (by simp), World.cell?_alloc_at _ _ _ _ rfl]
    simp [hz]
  | 1, hr =>
    cases hr
    refine ⟨_, 0, _, rfl, by simp, World.cell?_alloc_at _ _ _ _ (by simp), ⟨_, _, rfl, ⟨Nat.le_refl _, by unfold maxLen; omega⟩, fun j z hz => ⟨_, 0, rfl, by simp, ?_⟩⟩⟩
    rw [World.cell?_alloc_past _ _ _ (by simp), World.cell?_alloc_at _ _ _ _ (by simp)]
    simp [hz]

theorem below3 (w : World) (o1 o2 o3 : Obj) : Below w.heap.size w (((w.alloc o1).alloc o2).alloc o3) := ((below_alloc _ _).alloc (by simp) _).alloc (by simp; omega) _
theorem two_begin : beginA twoM = ([[0, 1, 2], [0, 1, 2]], 0) := by unfold beginA; rw [if_pos two_checks]; rfl
theorem two_meet : meetA twoM [[0, 1, 2], [0, 1, 2]] [[1], [0, 2]] = ([[1], [0, 2]], 0) := by
  have h : checkL twoM [[[0, 1, 2], [0, 1, 2]], [[1], [0, 2]]] = 0 := by unfold checkL; rw [if_pos two_checks]; decide
  unfold meetA; rw [if_pos h]; rfl
theorem two_within : withinA twoM [[1], [0, 2]] [[0, 1, 2], [0, 1, 2]] = (true, 0) := by
  have h : checkL twoM [[[1], [0, 2]], [[0, 1, 2], [0, 1, 2]]] = 0 := by unfold checkL; rw [if_pos two_checks]; decide
  unfold withinA; rw [if_pos h]; decide
theorem two_failed : failedA twoM [[0, 1, 2], [0, 1, 2]] = (false, 0) := by
  have h : checkL twoM [[[0, 1, 2], [0, 1, 2]]] = 0 := by unfold checkL; rw [if_pos two_checks]; decide
  unfold failedA; rw [if_pos h]; decide
theorem two_check : checkL twoM [[[1], [0, 2]]] = 0 := by unfold checkL; rw [if_pos two_checks]; decide

set_option maxHeartbeats 1600000 in
set_option maxRecDepth 100000 in
theorem begun_store (w : World) :
    Calls Tryz.prog 19 #[] w fun e w' => e = .returned (.bool true) ∧ Below w.heap.size w w' := by
  go_enter Tryz.func19, Tryz.ntmps19
  go_wp2_with fail
  refine (two_any _).mono ?_
  rintro e w1 ⟨vs, cs, rfl, hm, hb1⟩
  go_wp2_with fail
  refine (sbegin_any twoM _ _ _ hm).mono ?_
  rintro e w2 ⟨xs, rfl, hxs, hb2⟩
  rw [two_begin] at hxs ⊢
  have hB2 : Below w.heap.size w w2 := hb1.trans (hb2.mono hb1.size)
  have HXS : Hid (∀ w' : World, Below w2.heap.size w2 w' → RArg w' xs [[0, 1, 2], [0, 1, 2]]) := fun w' h => RArg.below h hxs
  obtain ⟨a1, c1, rfl, _, _⟩ := hxs
  clear hm hb1 hb2
  go_wp2_with fail
  refine (two_any _).mono ?_
  rintro e w3 ⟨vs, cs, rfl, hm, hb3⟩
  have HM3 : Hid (∀ w' : World, Below w3.heap.size w3 w' → MArg w' vs cs twoM) := fun w' h => MArg.below h hm
  clear hm
  go_wp2_with fail
  have hs3 := hb3.size
  refine (smeet_any twoM [[0, 1, 2], [0, 1, 2]] [[1], [0, 2]] _ _ _ _ _ (HM3.out _ (below3 _ _ _ _)) (HXS.out _ (hb3.trans ((below3 _ _ _ _).mono hs3))) (lit2 [1] [0, 2] _ _ _ rfl rfl rfl (by decide) (by decide))).mono ?_
  rintro e w4 ⟨xt, rfl, hxt, hb4⟩
  rw [two_meet] at hxt ⊢
  have hB4 : Below w2.heap.size w2 w4 := (hb3.trans ((below3 _ _ _ _).mono hs3)).trans (hb4.mono (by simp; omega))
  have HXT : Hid (∀ w' : World, Below w4.heap.size w4 w' → RArg w' xt [[1], [0, 2]]) := fun w' h => RArg.below h hxt
  obtain ⟨a2, c2, rfl, _, _⟩ := hxt
  clear hb3 hb4 HM3 hs3
  have hs4 := hB4.size
  go_wp2_with fail
  refine (two_any _).mono ?_
  rintro e w5 ⟨vs, cs, rfl, hm, hb5⟩
  have hs5 := hb5.size
  go_wp2_with fail
  refine (swithin_any twoM [[1], [0, 2]] [[0, 1, 2], [0, 1, 2]] _ _ _ _ _ hm (HXT.out _ hb5) (HXS.out _ (hB4.trans (hb5.mono hs4)))).mono ?_
  rintro e w6 ⟨rfl, hb6⟩
  rw [two_within]
  have hB6 : Below w4.heap.size w4 w6 := hb5.trans (hb6.mono hs5)
  clear hb5 hb6 hm hs5
  have hs6 := hB6.size
  go_wp2_with fail
  refine (two_any _).mono ?_
  rintro e w7 ⟨vs, cs, rfl, hm, hb7⟩
  have hs7 := hb7.size
  go_wp2_with fail
  refine (sfailed_any twoM [[0, 1, 2], [0, 1, 2]] _ _ _ _ hm (HXS.out _ ((hB4.trans (hB6.mono hs4)).trans (hb7.mono (by omega))))).mono ?_
  rintro e w8 ⟨rfl, hb8⟩
  rw [two_failed]
  have hB8 : Below w4.heap.size w4 w8 := (hB6.trans (hb7.mono hs6)).trans (hb8.mono (by omega))
  clear hb7 hb8 hm hs7 hB6 hs6
  have hs8 := hB8.size
  go_wp2_with fail
  refine (samestore_any [[0, 1, 2], [0, 1, 2]] [[0, 1, 2], [0, 1, 2]] _ _ _ (HXS.out _ ((hB4.trans (hB8.mono hs4)).trans ((below3 _ _ _ _).mono (by omega)))) (lit2 [0, 1, 2] [0, 1, 2] _ _ _ rfl rfl rfl (by decide) (by decide))).mono ?_
  rintro e w9 ⟨rfl, n9, h9⟩
  rw [show decide (([[0, 1, 2], [0, 1, 2]] : Sto) = [[0, 1, 2], [0, 1, 2]]) = true from by decide]
  have hB9 : Below w4.heap.size w4 w9 := (hB8.trans ((below3 _ _ _ _).mono hs8)).trans ((draws_below h9).mono (by simp; omega))
  clear h9 hB8 hs8
  have hs9 := hB9.size
  go_wp2_with fail
  refine (samestore_any [[1], [0, 2]] [[1], [0, 2]] _ _ _ (HXT.out _ (hB9.trans ((below3 _ _ _ _).mono hs9))) (lit2 [1] [0, 2] _ _ _ rfl rfl rfl (by decide) (by decide))).mono ?_
  rintro e wa ⟨rfl, na, ha⟩
  rw [show decide (([[1], [0, 2]] : Sto) = [[1], [0, 2]]) = true from by decide]
  have hBa : Below w4.heap.size w4 wa := (hB9.trans ((below3 _ _ _ _).mono hs9)).trans ((draws_below ha).mono (by simp; omega))
  clear ha hB9 hs9
  have hsa := hBa.size
  go_wp2_with fail
  refine (two_any _).mono ?_
  rintro e wb ⟨vs, cs, rfl, hm, hbb⟩
  have hsb := hbb.size
  go_wp2_with fail
  refine (scheck_any twoM [[1], [0, 2]] _ _ _ _ hm (HXT.out _ (hBa.trans (hbb.mono hsa)))).mono ?_
  rintro e wc ⟨rfl, hbc⟩
  rw [two_check]
  have hBc : Below w.heap.size w wc := (hB2.trans ((hB4.trans ((hBa.trans ((hbb.mono hsa).trans (hbc.mono (by omega)))).mono hs4)).mono hB2.size))
  clear hbc hbb hm hBa hB4 hB2
  go_wp2
  go_ret
  exact ⟨rfl, hBc⟩
end Go.Proofs.YtggkbhafbhhhhadGreat
/-
  PLAIN: the constraint of two(), and its scope.
-/
namespace Go.Proofs.YtggkbhafbhhhhadGreat

def twoC : MCon := ⟨1, [0, 1], [1, -1], -1, [], []⟩
theorem sort_01 : sortI [0, 1] = [0, 1] := by
  unfold sortI
  exact List.mergeSort_of_pairwise (by decide)
theorem two_scopeC : scopeC twoC = [0, 1] := by
  have h1 : scopeL twoC = [0, 1] := by rfl
  unfold scopeC
  rw [h1, sort_01]
  decide
end Go.Proofs.YtggkbhafbhhhhadGreat
/-
  WALKS: package clause: Check, Holds, checkIn, Unit, Deny.
-/
namespace Go.Proofs.YtggkbhafbhhhhadGreat
open Go.RowKit

def ccheckA (m : Mod) (c : Cla) : Int := if checkM m = 0 then claE m.vars c else checkM m
def choldsA (m : Mod) (c : Cla) (vals : List Int) : Bool × Int := if ccheckA m c = 0 then (if vals.length = m.vars.length then (claB c vals, 0) else (false, 1)) else (false, ccheckA m c)
def cinE (m : Mod) (s : Sto) (c : Cla) : Int := if checkL m [s] = 0 then claE m.vars c else checkL m [s]
def cunitA (m : Mod) (s : Sto) (c : Cla) : Sto × Int := if cinE m s c = 0 then (unitS s c, 0) else ([], cinE m s c)
def cdenyA (m : Mod) (s : Sto) (c : Cla) : Sto × Int := if cinE m s c = 0 then (denyS s c, 0) else ([], cinE m s c)
theorem cinE_ok (m : Mod) (s : Sto) (c : Cla) (h : cinE m s c = 0) : checkL m [s] = 0 ∧ claE m.vars c = 0 := by
  unfold cinE at h
  split at h
  · rename_i h0; exact ⟨h0, h⟩
  · contradiction
theorem ccheck_ok (m : Mod) (c : Cla) (h : ccheckA m c = 0) : checkM m = 0 ∧ claE m.vars c = 0 := by
  unfold ccheckA at h
  split at h
  · rename_i h0; exact ⟨h0, h⟩
  · contradiction
theorem claE_fine (vs : List MVar) (c : Cla) (h : claE vs c = 0) : ∀ l ∈ c, 0 ≤ l.var ∧ l.var < (vs.length : Int) := by
  unfold claE at h
  split at h
  · cases h
  · intro l hl
    exact ((litE_ok vs l).1 (firstE_all _ h _ (List.mem_map.2 ⟨l, hl, rfl⟩))).1

set_option maxHeartbeats 800000 in
set_option maxRecDepth 100000 in
theorem ccheck_any (m : Mod) (c : Cla) (vs cs u : Value) (w : World) (hm : MArg w vs cs m) (hu : LArg w u c) :
    Calls Tryz.prog 43 #[modV vs cs m, u] w fun e w' => e = .returned (.int .i64 (ccheckA m c)) ∧ Below w.heap.size w w' := by
  have HMA : Hid (∀ w' : World, Below w.heap.size w w' → MArg w' vs cs m) := fun w' h => MArg.below h hm
  have HUA : Hid (∀ w' : World, Below w.heap.size w w' → LArg w' u c) := fun w' h => LArg.below h hu
  obtain ⟨⟨a1, c1, rfl, _, _⟩, ⟨a2, c2, rfl, _, _⟩⟩ := hm
  obtain ⟨a3, c3, rfl, _, _⟩ := hu
  obtain ⟨R, hR⟩ : ∃ R, ccheckA m c = R := ⟨_, rfl⟩
  rw [hR]
  obtain ⟨er, her⟩ : ∃ er, checkM m = er := ⟨_, rfl⟩
  have HER : Hid (checkM m = er) := her
  have HE : Hid (R = if er = 0 then claE m.vars c else er) := by rw [← hR, ← her]; rfl
  clear hR her
  unfold modV
  go_enter Tryz.func43, Tryz.ntmps43
  go_wp2_with fail
  refine (check_model m (.slice a1 m.vars.length c1) (.slice a2 m.cons.length c2) _ ?_).mono ?_
  · exact HMA.out _ (below_alloc _ _)
  rintro e w1 ⟨rfl, hb1⟩
  rw [HER.out]
  have g0 : w1.cell? ⟨w.heap.size, 0, none⟩ = some (.slice a1 m.vars.length c1) := (hb1.cell (by simp)).trans (by simp)
  have HB1 : Hid (Below w.heap.size w w1) := (below_alloc _ _).trans (hb1.mono (by simp))
  clear hb1
  by_cases he : er = 0
  · subst he
    have HN : Hid (R = claE m.vars c) := by rw [HE.out, if_pos rfl]; rfl
    go_wp2_with fail
    refine (cla_check m.vars c _ _ _ (HMA.out _ HB1.out).1 (HUA.out _ HB1.out)).mono ?_
    rintro e w2 ⟨rfl, hb2⟩
    have hb3 : Below w.heap.size w w2 := HB1.out.trans (hb2.mono HB1.out.size)
    clear hb2
    go_wp2
    go_ret
    exact ⟨ret_int HN.out.symm, hb3⟩
  · have HN : Hid (R = er) := by rw [HE.out, if_neg he]; rfl
    have he2 : (er != 0) = true := by simpa using he
    clear he
    go_wp2
    go_ret
    exact ⟨ret_int HN.out.symm, HB1.out⟩

set_option maxHeartbeats 800000 in
set_option maxRecDepth 100000 in
theorem cin_any (m : Mod) (s : Sto) (c : Cla) (vs cs v u : Value) (w : World) (hm : MArg w vs cs m) (hv : RArg w v s) (hu : LArg w u c) :
    Calls Tryz.prog 81 #[modV vs cs m, v, u] w fun e w' => e = .returned (.int .i64 (cinE m s c)) ∧ Below w.heap.size w w' := by
  have HMA : Hid (∀ w' : World, Below w.heap.size w w' → MArg w' vs cs m) := fun w' h => MArg.below h hm
  have HVA : Hid (∀ w' : World, Below w.heap.size w w' → RArg w' v s) := fun w' h => RArg.below h hv
  have HUA : Hid (∀ w' : World, Below w.heap.size w w' → LArg w' u c) := fun w' h => LArg.below h hu
  obtain ⟨⟨a1, c1, rfl, _, _⟩, ⟨a2, c2, rfl, _, _⟩⟩ := hm
  obtain ⟨a3, c3, rfl, _, _⟩ := hv
  obtain ⟨a4, c4, rfl, _, _⟩ := hu
  obtain ⟨R, hR⟩ : ∃ R, cinE m s c = R := ⟨_, rfl⟩
  rw [hR]
  obtain ⟨er, her⟩ : ∃ er, checkL m [s] = er := ⟨_, rfl⟩
  have HER : Hid (checkL m [s] = er) := her
  have HE : Hid (R = if er = 0 then claE m.vars c else er) := by rw [← hR, ← her]; rfl
  clear hR her
  unfold modV
  go_enter Tryz.func81, Tryz.ntmps81
  go_wp2_with fail
  refine (scheck_any m s (.slice a1 m.vars.length c1) (.slice a2 m.cons.length c2) _ _ ?_ ?_).mono ?_
  · exact HMA.out _ (below_alloc _ _)
  · exact HVA.out _ (below_alloc _ _)
  rintro e w1 ⟨rfl, hb1⟩
  rw [HER.out]
  have g0 : w1.cell? ⟨w.heap.size, 0, none⟩ = some (.slice a1 m.vars.length c1) := (hb1.cell (by simp)).trans (by simp)
  have HB1 : Hid (Below w.heap.size w w1) := (below_alloc _ _).trans (hb1.mono (by simp))
  clear hb1
  by_cases he : er = 0
  · subst he
    have HN : Hid (R = claE m.vars c) := by rw [HE.out, if_pos rfl]; rfl
    go_wp2_with fail
    refine (cla_check m.vars c _ _ _ (HMA.out _ HB1.out).1 (HUA.out _ HB1.out)).mono ?_
    rintro e w2 ⟨rfl, hb2⟩
    have hb3 : Below w.heap.size w w2 := HB1.out.trans (hb2.mono HB1.out.size)
    clear hb2
    go_wp2
    go_ret
    exact ⟨ret_int HN.out.symm, hb3⟩
  · have HN : Hid (R = er) := by rw [HE.out, if_neg he]; rfl
    have he2 : (er != 0) = true := by simpa using he
    clear he
    go_wp2
    go_ret
    exact ⟨ret_int HN.out.symm, HB1.out⟩

set_option maxHeartbeats 800000 in
set_option maxRecDepth 100000 in
theorem cholds_any (m : Mod) (c : Cla) (vals : List Int) (vs cs u v : Value) (w : World) (hm : MArg w vs cs m) (hu : LArg w u c) (hv : IArg w v vals) :
    Calls Tryz.prog 40 #[modV vs cs m, u, v] w fun e w' => e = .returned (.tuple #[.bool (choldsA m c vals).1, .int .i64 (choldsA m c vals).2]) ∧ Below w.heap.size w w' := by
  have HMA : Hid (∀ w' : World, Below w.heap.size w w' → MArg w' vs cs m) := fun w' h => MArg.below h hm
  have HUA : Hid (∀ w' : World, Below w.heap.size w w' → LArg w' u c) := fun w' h => LArg.below h hu
  have HVA : Hid (∀ w' : World, Below w.heap.size w w' → IArg w' v vals) := fun w' h => IArg.below h hv
  obtain ⟨⟨a1, c1, rfl, _, _⟩, ⟨a2, c2, rfl, _, _⟩⟩ := hm
  obtain ⟨a3, c3, rfl, _, _⟩ := hu
  obtain ⟨a4, c4, rfl, _, _⟩ := hv
  obtain ⟨R, hR⟩ : ∃ R, choldsA m c vals = R := ⟨_, rfl⟩
  rw [hR]
  obtain ⟨er, her⟩ : ∃ er, ccheckA m c = er := ⟨_, rfl⟩
  have HER : Hid (ccheckA m c = er) := her
  have HE : Hid (R = if er = 0 then (if vals.length = m.vars.length then (claB c vals, 0) else (false, 1)) else (false, er)) := by rw [← hR, ← her]; rfl
  clear hR her
  unfold modV
  go_enter Tryz.func40, Tryz.ntmps40
  go_wp2_with fail
  refine (ccheck_any m c (.slice a1 m.vars.length c1) (.slice a2 m.cons.length c2) _ _ ?_ ?_).mono ?_
  · exact HMA.out _ (below_alloc _ _)
  · exact HUA.out _ (below_alloc _ _)
  rintro e w1 ⟨rfl, hb1⟩
  rw [HER.out]
  have g0 : w1.cell? ⟨w.heap.size, 0, none⟩ = some (.slice a1 m.vars.length c1) := (hb1.cell (by simp)).trans (by simp)
  have HB1 : Hid (Below w.heap.size w w1) := (below_alloc _ _).trans (hb1.mono (by simp))
  clear hb1
  by_cases he : er = 0
  · subst he
    by_cases hl : vals.length = m.vars.length
    · have HN : Hid (R = (c.any (litB vals), 0)) := by rw [HE.out, if_pos rfl, if_pos hl]; rfl
      have HCI : Hid (∀ l ∈ c, 0 ≤ l.var ∧ l.var < (vals.length : Int)) := by rw [hl]; exact claE_fine _ _ (ccheck_ok m c HER.out).2
      have hq : ((vals.length : Int) != (m.vars.length : Int)) = false := by simp [hl]
      clear hl
      go_wp2_with fail
      refine (clause_true c vals _ _ _ (HUA.out _ HB1.out) (HVA.out _ HB1.out) HCI.out).mono ?_
      rintro e w2 ⟨rfl, hb2⟩
      have hb3 : Below w.heap.size w w2 := HB1.out.trans (hb2.mono HB1.out.size)
      obtain ⟨B, hB⟩ : ∃ B, c.any (litB vals) = B := ⟨_, rfl⟩
      rw [hB] at HN ⊢
      clear hb2 hB
      go_wp2
      go_ret2
      exact ⟨by rw [HN.out]; rfl, hb3⟩
    · have HN : Hid (R = (false, 1)) := by rw [HE.out, if_pos rfl, if_neg hl]; rfl
      have hq : ((vals.length : Int) != (m.vars.length : Int)) = true := by simp; omega
      clear hl
      go_wp2
      go_ret2
      exact ⟨by rw [HN.out]; rfl, HB1.out⟩
  · have HN : Hid (R = (false, er)) := by rw [HE.out, if_neg he]; rfl
    have he2 : (er != 0) = true := by simpa using he
    clear he
    go_wp2
    go_ret2
    exact ⟨by rw [HN.out]; rfl, HB1.out⟩

set_option maxHeartbeats 800000 in
set_option maxRecDepth 100000 in
theorem cunit_any (m : Mod) (s : Sto) (c : Cla) (vs cs v u : Value) (w : World) (hm : MArg w vs cs m) (hv : RArg w v s) (hu : LArg w u c) :
    Calls Tryz.prog 41 #[modV vs cs m, v, u] w fun e w' => ∃ x, e = .returned (.tuple #[x, .int .i64 (cunitA m s c).2]) ∧ RArg w' x (cunitA m s c).1 ∧ Below w.heap.size w w' := by
  have HMA : Hid (∀ w' : World, Below w.heap.size w w' → MArg w' vs cs m) := fun w' h => MArg.below h hm
  have HVA : Hid (∀ w' : World, Below w.heap.size w w' → RArg w' v s) := fun w' h => RArg.below h hv
  have HUA : Hid (∀ w' : World, Below w.heap.size w w' → LArg w' u c) := fun w' h => LArg.below h hu
  obtain ⟨⟨a1, c1, rfl, _, _⟩, ⟨a2, c2, rfl, _, _⟩⟩ := hm
  obtain ⟨a3, c3, rfl, _, _⟩ := hv
  obtain ⟨a4, c4, rfl, _, _⟩ := hu
  obtain ⟨R, hR⟩ : ∃ R, cunitA m s c = R := ⟨_, rfl⟩
  rw [hR]
  obtain ⟨er, her⟩ : ∃ er, cinE m s c = er := ⟨_, rfl⟩
  have HER : Hid (cinE m s c = er) := her
  have HE : Hid (R = if er = 0 then (unitS s c, 0) else ([], er)) := by rw [← hR, ← her]; rfl
  clear hR her
  unfold modV
  go_enter Tryz.func41, Tryz.ntmps41
  go_wp2_with fail
  refine (cin_any m s c (.slice a1 m.vars.length c1) (.slice a2 m.cons.length c2) _ _ _ ?_ ?_ ?_).mono ?_
  · exact HMA.out _ (below_alloc _ _)
  · exact HVA.out _ (below_alloc _ _)
  · exact HUA.out _ (below_alloc _ _)
  rintro e w1 ⟨rfl, hb1⟩
  rw [HER.out]
  have HB1 : Hid (Below w.heap.size w w1) := (below_alloc _ _).trans (hb1.mono (by simp))
  clear hb1
  by_cases he : er = 0
  · subst he
    obtain ⟨o1, o2⟩ := cinE_ok m s c HER.out
    obtain ⟨o3, o4⟩ := (checkL_one m s).1 o1
    obtain ⟨hn6, hr6⟩ := rows_short m s o3 o4
    have HR6 : Hid (∀ r ∈ s, r.length ≤ 6) := hr6
    have HCI : Hid (ClaIn s c) := by intro l hl; rw [((checkV_ok _ _).1 o4).1]; exact claE_fine _ _ o2 l hl
    obtain ⟨hn7, hr7⟩ := rows_short m (unitS s c) o3 (checkV_unit m.vars s c o4)
    have HR7 : Hid (∀ r ∈ unitS s c, r.length ≤ 6) := hr7
    have HN : Hid (R = (unitS s c, 0)) := by rw [HE.out, if_pos rfl]; rfl
    clear o1 o2 o3 o4 hr6 hr7
    go_wp2_with fail
    refine (unit_any s c _ _ _ (HVA.out _ HB1.out) (HUA.out _ HB1.out) HCI.out hn6 HR6.out).mono ?_
    rintro e w2 ⟨x, rfl, hx, hb2⟩
    obtain ⟨M, hM⟩ : ∃ M, unitS s c = M := ⟨_, rfl⟩
    rw [hM] at hx HN hn7 HR7
    have HX : Hid (RArg w2 x M) := hx
    obtain ⟨ax, cx, rfl, _, _⟩ := hx
    have HB2 : Hid (Below w.heap.size w w2) := HB1.out.trans (hb2.mono HB1.out.size)
    clear hb2 hM
    go_wp2_with fail
    refine (all_any M _ _ HX.out hn7 HR7.out).mono ?_
    rintro e w3 ⟨y, rfl, hy, hb3⟩
    have HY : Hid (RArg w3 y M) := hy
    obtain ⟨ay, cy, rfl, _, _⟩ := hy
    have hB3 : Below w.heap.size w w3 := HB2.out.trans (hb3.mono HB2.out.size)
    clear hb3
    go_wp2
    go_ret2
    rw [HN.out]
    exact ⟨_, rfl, HY.out, hB3⟩
  · have HN : Hid (R = ([], er)) := by rw [HE.out, if_neg he]; rfl
    have he2 : (er != 0) = true := by simpa using he
    clear he
    go_wp2
    go_ret2
    rw [HN.out]
    exact ⟨_, rfl, ⟨_, _, rfl, ⟨Nat.le_refl _, Nat.zero_le _⟩, fun i r h => by simp at h⟩, HB1.out⟩

set_option maxHeartbeats 400000 in
set_option maxRecDepth 100000 in
theorem denied_any (c : Cla) (k : Nat) (z : Int) (u : Value) (bc : Nat) (w : World) (hu : LArg w u c) (h1 : w.cell? ⟨bc, 0, none⟩ = some u) :
    Calls Tryz.prog 82 #[.int .i64 (k : Int), .int .i64 z, .pointer (some ⟨bc, 0, none⟩)] w fun e w' => e = .returned (.bool (!oneB c k z)) ∧ Below w.heap.size w w' := by
  have HU : Hid (LArg w u c) := hu
  obtain ⟨a, cc, rfl, _, _⟩ := hu
  go_enter Tryz.func82, Tryz.ntmps82
  go_wp2_with fail
  refine (one_of c k z _ _ HU.out).mono ?_
  rintro e w1 ⟨rfl, hb1⟩
  go_wp2
  go_ret
  exact ⟨rfl, hb1⟩
theorem enters_denied (args : Array Value) (w' : World) : Sem.run Tryz.prog (callFunc 82 args) w' = .ok (.enter 82 args) w' := by
  simp [callFunc, go_sem, Tryz.func82, Tryz.f82]

set_option maxHeartbeats 800000 in
set_option maxRecDepth 100000 in
theorem cdeny_any (m : Mod) (s : Sto) (c : Cla) (vs cs v u : Value) (w : World) (hm : MArg w vs cs m) (hv : RArg w v s) (hu : LArg w u c) :
    Calls Tryz.prog 42 #[modV vs cs m, v, u] w fun e w' => ∃ x, e = .returned (.tuple #[x, .int .i64 (cdenyA m s c).2]) ∧ RArg w' x (cdenyA m s c).1 ∧ Below w.heap.size w w' := by
  have HMA : Hid (∀ w' : World, Below w.heap.size w w' → MArg w' vs cs m) := fun w' h => MArg.below h hm
  have HVA : Hid (∀ w' : World, Below w.heap.size w w' → RArg w' v s) := fun w' h => RArg.below h hv
  have HUA : Hid (∀ w' : World, Below w.heap.size w w' → LArg w' u c) := fun w' h => LArg.below h hu
  obtain ⟨⟨a1, c1, rfl, _, _⟩, ⟨a2, c2, rfl, _, _⟩⟩ := hm
  obtain ⟨a3, c3, rfl, _, _⟩ := hv
  obtain ⟨a4, c4, rfl, _, _⟩ := hu
  obtain ⟨R, hR⟩ : ∃ R, cdenyA m s c = R := ⟨_, rfl⟩
  rw [hR]
  obtain ⟨er, her⟩ : ∃ er, cinE m s c = er := ⟨_, rfl⟩
  have HER : Hid (cinE m s c = er) := her
  have HE : Hid (R = if er = 0 then (denyS s c, 0) else ([], er)) := by rw [← hR, ← her]; rfl
  clear hR her
  unfold modV
  go_enter Tryz.func42, Tryz.ntmps42
  go_wp2_with fail
  refine (cin_any m s c (.slice a1 m.vars.length c1) (.slice a2 m.cons.length c2) _ _ _ ?_ ?_ ?_).mono ?_
  · exact HMA.out _ (nb2 _ _ _)
  · exact HVA.out _ (nb2 _ _ _)
  · exact HUA.out _ (nb2 _ _ _)
  rintro e w1 ⟨rfl, hb1⟩
  rw [HER.out]
  have d1 : w1.cell? ⟨w.heap.size + 1, 0, none⟩ = some (.slice a4 c.length c4) := (hb1.cell (by simp)).trans (World.cell?_alloc_at _ _ _ 0 (by simp))
  have HB1 : Hid (Below w.heap.size w w1) := (nb2 _ _ _).trans (hb1.mono (by simp; omega))
  have hs1 : w.heap.size + 2 ≤ w1.heap.size := by simpa using hb1.size
  clear hb1
  by_cases he : er = 0
  · subst he
    obtain ⟨o1, o2⟩ := cinE_ok m s c HER.out
    obtain ⟨o3, o4⟩ := (checkL_one m s).1 o1
    obtain ⟨hn6, hr6⟩ := rows_short m s o3 o4
    have HR6 : Hid (∀ r ∈ s, r.length ≤ 6) := hr6
    have HN : Hid (R = (siftS s (fun k z => !oneB c k z), 0)) := by rw [HE.out, if_pos rfl]; rfl
    clear o1 o2 o3 o4 hr6
    go_wp2_with fail
    refine (sift_any 82 _ s (fun k z => !oneB c k z) _ _ (HVA.out _ HB1.out) ⟨enters_denied, ?_⟩ hn6 HR6.out).mono ?_
    · intro k q z w' hk _ hb'
      exact denied_any c k z _ (w.heap.size + 1) w' (HUA.out _ (HB1.out.trans (hb'.mono HB1.out.size))) ((hb'.cell (by simp only; omega)).trans d1)
    rintro e w2 ⟨x, rfl, hx, hb2⟩
    obtain ⟨M, hM⟩ : ∃ M, siftS s (fun k z => !oneB c k z) = M := ⟨_, rfl⟩
    rw [hM] at hx HN
    have HX : Hid (RArg w2 x M) := hx
    obtain ⟨ax, cx, rfl, _, _⟩ := hx
    have hB2 : Below w.heap.size w w2 := HB1.out.trans (hb2.mono HB1.out.size)
    clear hb2 hM
    go_wp2
    go_ret2
    rw [HN.out]
    exact ⟨_, rfl, HX.out, hB2⟩
  · have HN : Hid (R = ([], er)) := by rw [HE.out, if_neg he]; rfl
    have he2 : (er != 0) = true := by simpa using he
    clear he
    go_wp2
    go_ret2
    rw [HN.out]
    exact ⟨_, rfl, ⟨_, _, rfl, ⟨Nat.le_refl _, Nat.zero_le _⟩, fun i r h => by simp at h⟩, HB1.out⟩
end Go.Proofs.YtggkbhafbhhhhadGreat
/-
  WALK: clauseBegun.
-/
namespace Go.Proofs.YtggkbhafbhhhhadGreat
open Go.RowKit

def begC : Cla := [⟨0, 3, 2⟩, ⟨1, 2, 1⟩]
theorem lits_new (w : World) : LArg (w.alloc (.cells #[.int .i64 0, .int .i64 3, .int .i64 2, .int .i64 1, .int .i64 2, .int .i64 1] 63)) (.slice (some ⟨w.heap.size, 0, none⟩) 2 2) begC := by
  refine ⟨_, 2, rfl, ⟨by simp [begC], by unfold maxLen; omega⟩, fun i t ht => ?_⟩
  match i, ht with
  | 0, ht =>
    cases ht
    exact ⟨_, 0, rfl, by simp, World.cell?_alloc_at _ _ _ 0 (by simp), World.cell?_alloc_at _ _ _ 1 (by simp), World.cell?_alloc_at _ _ _ 2 (by simp)⟩
  | 1, ht =>
    cases ht
    exact ⟨_, 0, rfl, by simp, World.cell?_alloc_at _ _ _ 3 (by simp), World.cell?_alloc_at _ _ _ 4 (by simp), World.cell?_alloc_at _ _ _ 5 (by simp)⟩
theorem beg_in : cinE twoM [[0, 1], [0, 1, 2]] begC = 0 := by
  have h : checkL twoM [[[0, 1], [0, 1, 2]]] = 0 := by unfold checkL; rw [if_pos two_checks]; decide
  unfold cinE; rw [if_pos h]; decide
theorem beg_check : ccheckA twoM begC = 0 := by unfold ccheckA; rw [if_pos two_checks]; decide
theorem beg_holds : choldsA twoM begC [0, 1] = (true, 0) := by unfold choldsA; rw [if_pos beg_check]; decide
theorem beg_unit : cunitA twoM [[0, 1], [0, 1, 2]] begC = ([[0, 1], [1, 2]], 0) := by unfold cunitA; rw [if_pos beg_in]; decide
theorem beg_deny : cdenyA twoM [[0, 1], [0, 1, 2]] begC = ([[0, 1], [0]], 0) := by unfold cdenyA; rw [if_pos beg_in]; decide
theorem ints2 (w : World) (a b : Int) : IArg (w.alloc (.cells #[.int .i64 a, .int .i64 b] 3)) (.slice (some ⟨w.heap.size, 0, none⟩) 2 2) [a, b] := by
  refine ⟨_, 2, rfl, ⟨by simp, by unfold maxLen; omega⟩, fun i z hz => ?_⟩
  match i, hz with
  | 0, hz => cases hz; exact ⟨_, 0, rfl, by simp, World.cell?_alloc_at _ _ _ 0 (by simp)⟩
  | 1, hz => cases hz; exact ⟨_, 0, rfl, by simp, World.cell?_alloc_at _ _ _ 1 (by simp)⟩

set_option maxHeartbeats 1600000 in
set_option maxRecDepth 100000 in
theorem begun_clause (w : World) :
    Calls Tryz.prog 15 #[] w fun e w' => e = .returned (.bool true) ∧ Below w.heap.size w w' := by
  go_enter Tryz.func15, Tryz.ntmps15
  go_wp2_with fail
  refine (two_any _).mono ?_
  rintro e w1 ⟨vs, cs, rfl, hm, hb1⟩
  have HL : Hid (∀ w' : World, Below w1.heap.size w1 w' → LArg w' (.slice (some ⟨w.heap.size, 0, none⟩) 2 2) begC) := fun w' h => LArg.below (hb1.trans (h.mono hb1.size)) (LArg.below (below3 _ _ _ _) (lits_new w))
  have HS : Hid (∀ w' : World, Below w1.heap.size w1 w' → RArg w' (.slice (some ⟨w.heap.size + 1 + 1 + 1, 0, none⟩) 2 2) [[0, 1], [0, 1, 2]]) := fun w' h => RArg.below (hb1.trans (h.mono hb1.size)) (lit2 [0, 1] [0, 1, 2] _ _ _ (by simp) (by simp) (by simp) (by decide) (by decide))
  have HM : Hid (∀ w' : World, Below w1.heap.size w1 w' → MArg w' vs cs twoM) := fun w' h => MArg.below h hm
  have HB1 : Hid (Below w.heap.size w w1) := (((below3 _ _ _ _).alloc (by simp; omega) _).trans (hb1.mono (by simp; omega)))
  clear hm hb1
  go_wp2_with fail
  refine (cholds_any twoM begC [0, 1] _ _ _ _ _ (HM.out _ (below_alloc _ _)) (HL.out _ (below_alloc _ _)) (ints2 _ 0 1)).mono ?_
  rintro e w2 ⟨rfl, hb2⟩
  rw [beg_holds]
  have HB2 : Hid (Below w1.heap.size w1 w2) := (below_alloc _ _).trans (hb2.mono (by simp))
  clear hb2 HM
  go_wp2_with fail
  refine (two_any _).mono ?_
  rintro e w3 ⟨vs, cs, rfl, hm, hb3⟩
  have HB3 : Hid (Below w1.heap.size w1 w3) := HB2.out.trans (hb3.mono HB2.out.size)
  have HM : Hid (MArg w3 vs cs twoM) := hm
  clear hm hb3 HB2
  go_wp2_with fail
  refine (cunit_any twoM [[0, 1], [0, 1, 2]] begC _ _ _ _ _ HM.out (HS.out _ HB3.out) (HL.out _ HB3.out)).mono ?_
  rintro e w4 ⟨x, rfl, hx, hb4⟩
  rw [beg_unit] at hx ⊢
  have HX : Hid (∀ w' : World, Below w4.heap.size w4 w' → RArg w' x [[0, 1], [1, 2]]) := fun w' h => RArg.below h hx
  obtain ⟨ax, cx, rfl, _, _⟩ := hx
  have HB4 : Hid (Below w1.heap.size w1 w4) := HB3.out.trans (hb4.mono HB3.out.size)
  clear hb4 HB3 HM
  go_wp2_with fail
  refine (two_any _).mono ?_
  rintro e w5 ⟨vs, cs, rfl, hm, hb5⟩
  have HB5 : Hid (Below w1.heap.size w1 w5) := HB4.out.trans (hb5.mono HB4.out.size)
  have HM : Hid (MArg w5 vs cs twoM) := hm
  have HB45 : Hid (Below w4.heap.size w4 w5) := hb5
  clear hm hb5 HB4
  go_wp2_with fail
  refine (cdeny_any twoM [[0, 1], [0, 1, 2]] begC _ _ _ _ _ HM.out (HS.out _ HB5.out) (HL.out _ HB5.out)).mono ?_
  rintro e w6 ⟨y, rfl, hy, hb6⟩
  rw [beg_deny] at hy ⊢
  have HY : Hid (∀ w' : World, Below w6.heap.size w6 w' → RArg w' y [[0, 1], [0]]) := fun w' h => RArg.below h hy
  obtain ⟨ay, cy, rfl, _, _⟩ := hy
  have HB6 : Hid (Below w1.heap.size w1 w6) := HB5.out.trans (hb6.mono HB5.out.size)
  have HB46 : Hid (Below w4.heap.size w4 w6) := HB45.out.trans (hb6.mono HB45.out.size)
  clear hb6 HB5 HM HB45
  go_wp2_with fail
  refine (two_any _).mono ?_
  rintro e w7 ⟨vs, cs, rfl, hm, hb7⟩
  have HB67 : Hid (Below w6.heap.size w6 w7) := hb7
  have HM : Hid (MArg w7 vs cs twoM) := hm
  clear hm hb7
  go_wp2_with fail
  refine (ccheck_any twoM begC _ _ _ _ HM.out (HL.out _ (HB6.out.trans (HB67.out.mono HB6.out.size)))).mono ?_
  rintro e w8 ⟨rfl, hb8⟩
  rw [beg_check]
  have HB68 : Hid (Below w6.heap.size w6 w8) := HB67.out.trans (hb8.mono HB67.out.size)
  clear hb8 HM HB67
  go_wp2_with fail
  refine (samestore_any [[0, 1], [1, 2]] [[0, 1], [1, 2]] _ _ _ (HX.out _ ?_) (lit2 [0, 1] [1, 2] _ _ _ rfl rfl rfl (by decide) (by decide))).mono ?_
  · exact HB46.out.trans ((HB68.out.trans ((below3 _ _ _ _).mono HB68.out.size)).mono HB46.out.size)
  rintro e w9 ⟨rfl, n9, h9⟩
  rw [show decide (([[0, 1], [1, 2]] : Sto) = [[0, 1], [1, 2]]) = true from by decide]
  have HB69 : Hid (Below w6.heap.size w6 w9) := HB68.out.trans (((below3 _ _ _ _).trans ((draws_below h9).mono (by simp; omega))).mono HB68.out.size)
  clear h9
  go_wp2_with fail
  refine (samestore_any [[0, 1], [0]] [[0, 1], [0]] _ _ _ (HY.out _ ?_) (lit2 [0, 1] [0] _ _ _ rfl rfl rfl (by decide) (by decide))).mono ?_
  · exact HB69.out.trans ((below3 _ _ _ _).mono HB69.out.size)
  rintro e wa ⟨rfl, na, ha⟩
  rw [show decide (([[0, 1], [0]] : Sto) = [[0, 1], [0]]) = true from by decide]
  have hBa : Below w.heap.size w wa := HB1.out.trans ((HB6.out.trans ((HB69.out.trans (((below3 _ _ _ _).trans ((draws_below ha).mono (by simp; omega))).mono HB69.out.size)).mono HB6.out.size)).mono HB1.out.size)
  clear ha
  go_wp2
  go_ret
  exact ⟨rfl, hBa⟩
end Go.Proofs.YtggkbhafbhhhhadGreat
