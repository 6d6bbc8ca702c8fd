/-
  WALKS: package fault: Clauses. Package fix: checkIn, the ways.
-/
import Derived.Test.YtggkbhafbhhhhadGreatFixM
import Derived.Test.YtggkbhafbhhhhadGreatFauB
import Derived.Test.YtggkbhafbhhhhadGreatFilD
namespace Go.Proofs.YtggkbhafbhhhhadGreat
open Go.RowKit

set_option maxHeartbeats 800000 in
set_option maxRecDepth 100000 in
theorem clas_check (vs : List MVar) (l : List Cla) (v u : Value) (w : World) (hv : VArg w v vs) (hu : LLArg w u l) :
    Calls Tryz.prog 60 #[v, u] w fun e w' => e = .returned (.int .i64 (clasE vs l)) ∧ Below w.heap.size w w' := by
  have HVA : Hid (∀ w' : World, Below w.heap.size w w' → VArg w' v vs) := fun w' h => VArg.below h hv
  obtain ⟨a1, c1, rfl, _, _⟩ := hv
  obtain ⟨a, cc, rfl, hm, hr⟩ := hu
  have HV : Hid (∀ (i : Nat) (t : Cla), l[i]? = some t → ∃ b off x, a = some ⟨b, off, none⟩ ∧ b < w.heap.size ∧ w.cell? ⟨b, off + i, none⟩ = some x ∧ LArg w x t) := hr
  unfold maxLen at hm
  obtain ⟨hm1, hm⟩ := hm
  obtain ⟨R, hR⟩ : ∃ R, clasE vs l = R := ⟨_, rfl⟩
  rw [hR]
  have HE : Hid (R = if 600 < l.length then 2 else firstE (l.map (claE vs))) := by rw [← hR]; rfl
  clear hR hr
  by_cases h40 : 600 < l.length
  · have HN : Hid (R = 2) := by rw [HE.out, if_pos h40]; rfl
    go_enter Tryz.func60, Tryz.ntmps60
    go_wp2
    go_ret
    exact ⟨ret_int HN.out.symm, Below.refl _ _⟩
  · have HE2 : Hid (R = firstE (l.map (claE vs))) := by rw [HE.out, if_neg h40]; rfl
    go_enter Tryz.func60, Tryz.ntmps60
    go_wp2_with fail
    go_loopw [13] (fun i wr => ∃ k : Nat, k ≤ l.length ∧ i = .int .i64 k ∧ Hid (firstE ((l.map (claE vs)).take k) = 0) ∧ Below w.heap.size w wr) (fun i _ => l.length - (intOf i).toNat)
    case atStart => exact ⟨0, by omega, rfl, rfl, Below.refl _ _⟩
    case round =>
      obtain ⟨k, hk, rfl, hall, hbw⟩ := hrel
      by_cases hlt : k < l.length
      · obtain ⟨t, hz⟩ : ∃ z, l[k]? = some z := ⟨l[k], by simp [hlt]⟩
        obtain ⟨b, off, x, ha, hb, q0, hx⟩ := HV.out k t hz
        have HX : Hid (LArg wr x t) := LArg.below hbw hx
        obtain ⟨a5, c5, rfl, _, _⟩ := hx
        have hc0 := (hbw.cell (p := ⟨b, off + k, none⟩) hb).trans q0
        subst ha
        obtain ⟨er, her⟩ : ∃ er, claE vs t = er := ⟨_, rfl⟩
        have HER : Hid (claE vs t = er) := her
        have HZ : Hid ((l.map (claE vs))[k]? = some er) := by show _ = _; rw [List.getElem?_map, hz, ← her]; rfl
        clear hz q0 her
        go_wp2_with fail
        refine (cla_check vs t _ _ _ (HVA.out _ hbw) HX.out).mono ?_
        rintro e w2 ⟨rfl, hb2⟩
        rw [HER.out]
        have hB2 : Below w.heap.size w w2 := hbw.trans (hb2.mono hbw.size)
        clear hb2
        by_cases he : er = 0
        · subst he
          have HN : Hid (firstE ((l.map (claE vs)).take (k + 1)) = 0) := firstE_step _ k hall.out HZ.out
          go_wp2
          go_roundw
          case rel => exact ⟨k + 1, by omega, by go_num, HN, hB2⟩
          case measure => simp [intOf]; omega
        · have HN : Hid (R = er) := by rw [HE2.out]; exact firstE_hit _ k er hall.out HZ.out he
          have he2 : (er != 0) = true := by simpa using he
          clear he
          go_wp2
          go_ret
          exact ⟨ret_int HN.out.symm, hB2⟩
      · have HN : Hid (R = 0) := by
          have := hall.out
          rw [List.take_of_length_le (by simp; omega)] at this
          rw [HE2.out]; exact this
        go_wp2
        go_ret
        exact ⟨ret_int HN.out.symm, hbw⟩

set_option maxHeartbeats 800000 in
set_option maxRecDepth 100000 in
theorem fin_any (m : Mod) (s : Sto) (l : List Cla) (vs cs v u : Value) (w : World) (hm : MArg w vs cs m) (hv : RArg w v s) (hu : LLArg w u l) :
    Calls Tryz.prog 26 #[modV vs cs m, v, u] w fun e w' => e = .returned (.int .i64 (bothE m s l)) ∧ Below w.heap.size w w' := by
  have HMA : Hid (∀ w' : World, Below w.heap.size w w' → MArg w' vs cs m) := fun w' h => MArg.below h hm
  have HVA : Hid (∀ w' : World, Below w.heap.size w w' → RArg w' v s) := fun w' h => RArg.below h hv
  have HUA : Hid (∀ w' : World, Below w.heap.size w w' → LLArg w' u l) := fun w' h => LLArg.below h hu
  obtain ⟨⟨a1, c1, rfl, _, _⟩, ⟨a2, c2, rfl, _, _⟩⟩ := hm
  obtain ⟨a3, c3, rfl, _, _⟩ := hv
  obtain ⟨a4, c4, rfl, _, _⟩ := hu
  obtain ⟨R, hR⟩ : ∃ R, bothE m s l = R := ⟨_, rfl⟩
  rw [hR]
  obtain ⟨er, her⟩ : ∃ er, checkL m [s] = er := ⟨_, rfl⟩
  have HER : Hid (checkL m [s] = er) := her
  have HE : Hid (R = if er = 0 then clasE m.vars l else er) := by rw [← hR, ← her]; rfl
  clear hR her
  unfold modV
  go_enter Tryz.func26, Tryz.ntmps26
  go_wp2_with fail
  refine (scheck_any m s (.slice a1 m.vars.length c1) (.slice a2 m.cons.length c2) _ _ ?_ ?_).mono ?_
  · exact HMA.out _ (below_alloc _ _)
  · exact HVA.out _ (below_alloc _ _)
  rintro e w1 ⟨rfl, hb1⟩
  rw [HER.out]
  have g0 : w1.cell? ⟨w.heap.size, 0, none⟩ = some (.slice a1 m.vars.length c1) := (hb1.cell (by simp)).trans (by simp)
  have HB1 : Hid (Below w.heap.size w w1) := (below_alloc _ _).trans (hb1.mono (by simp))
  clear hb1
  by_cases he : er = 0
  · subst he
    have HN : Hid (R = clasE m.vars l) := by rw [HE.out, if_pos rfl]; rfl
    go_wp2_with fail
    refine (clas_check m.vars l _ _ _ (HMA.out _ HB1.out).1 (HUA.out _ HB1.out)).mono ?_
    rintro e w2 ⟨rfl, hb2⟩
    have hb3 : Below w.heap.size w w2 := HB1.out.trans (hb2.mono HB1.out.size)
    clear hb2
    go_wp2
    go_ret
    exact ⟨ret_int HN.out.symm, hb3⟩
  · have HN : Hid (R = er) := by rw [HE.out, if_neg he]; rfl
    have he2 : (er != 0) = true := by simpa using he
    clear he
    go_wp2
    go_ret
    exact ⟨ret_int HN.out.symm, HB1.out⟩

theorem alloc_here (w : World) (n : Nat) (v : Value) (t : TypeId) (h : n = w.heap.size) : (w.alloc (.cells #[v] t)).cell? ⟨n, 0, none⟩ = some v := by
  rw [h]; exact World.cell?_alloc_at _ _ _ 0 (by simp)
theorem enters_con (args : Array Value) (w' : World) : Sem.run Tryz.prog (callFunc 58 args) w' = .ok (.enter 58 args) w' := by
  simp [callFunc, go_sem, Tryz.func58, Tryz.f58]
theorem enters_cla (args : Array Value) (w' : World) : Sem.run Tryz.prog (callFunc 61 args) w' = .ok (.enter 61 args) w' := by
  simp [callFunc, go_sem, Tryz.func61, Tryz.f61]

theorem filter_right (m : Mod) (i : Nat) (c : MCon) (t : Sto) (hm : checkM m = 0) (ht : checkV m.vars t = 0) (hc : m.cons[i]? = some c) : filterA m (i : Int) t = (filtS m.vars.length c t, 0) := by
  have hl : i < m.cons.length := (List.getElem?_eq_some_iff.1 hc).1
  have h1 : conCheck m (i : Int) = 0 := by
    unfold conCheck
    rw [if_pos hm, if_neg (by omega)]
  have hg : m.cons.getD ((i : Int)).toNat noCon = c := by rw [Int.toNat_natCast, List.getD_eq_getElem?_getD, hc]; rfl
  unfold filterA
  rw [if_pos ((checkL_one m t).2 ⟨hm, ht⟩), if_pos h1, hg, filt_eq _ _ _ ((checkV_ok _ _).1 ht).1]

set_option maxHeartbeats 800000 in
set_option maxRecDepth 100000 in
theorem conby_any (m : Mod) (i : Nat) (c : MCon) (t : Sto) (vs cs v : Value) (bm bk : Nat) (w : World) (hm : checkM m = 0) (ht : checkV m.vars t = 0) (hc : m.cons[i]? = some c) (hma : MArg w vs cs m) (hv : RArg w v t)
    (h0 : w.cell? ⟨bm, 0, none⟩ = some vs) (h1 : w.cell? ⟨bm, 1, none⟩ = some cs) (h2 : w.cell? ⟨bm, 2, none⟩ = some (.int .i64 m.goal)) (h3 : w.cell? ⟨bm, 3, none⟩ = some (.int .i64 m.var)) (h4 : w.cell? ⟨bk, 0, none⟩ = some (.int .i64 (i : Int))) :
    Calls Tryz.prog 58 #[v, .pointer (some ⟨bm, 0, none⟩), .pointer (some ⟨bk, 0, none⟩)] w fun e w' => ∃ x, e = .returned x ∧ RArg w' x (filtS m.vars.length c t) ∧ Below w.heap.size w w' := by
  have HMA : Hid (MArg w vs cs m) := hma
  have HV : Hid (RArg w v t) := hv
  obtain ⟨M, hM⟩ : ∃ M, filtS m.vars.length c t = M := ⟨_, rfl⟩
  rw [hM]
  have HFR : Hid (filterA m (i : Int) t = (M, 0)) := by show _ = _; rw [← hM]; exact filter_right m i c t hm ht hc
  obtain ⟨⟨a1, c1, rfl, _, _⟩, ⟨a2, c2, rfl, _, _⟩⟩ := hma
  obtain ⟨a3, c3, rfl, _, _⟩ := hv
  clear hm ht hc hM
  go_enter Tryz.func58, Tryz.ntmps58
  go_wp2_with fail
  refine (show Calls Tryz.prog 59 #[.agg #[.slice a1 m.vars.length c1, .slice a2 m.cons.length c2, .int .i64 m.goal, .int .i64 m.var], .int .i64 (i : Int), .slice a3 t.length c3] w _ from filter_any m (i : Int) t (.slice a1 m.vars.length c1) (.slice a2 m.cons.length c2) _ _ HMA.out HV.out).mono ?_
  rintro e w1 ⟨x, rfl, hx, hb1⟩
  rw [HFR.out] at hx ⊢
  have HX : Hid (RArg w1 x M) := hx
  obtain ⟨ax, cx, rfl, _, _⟩ := hx
  go_wp2
  go_ret
  exact ⟨_, rfl, HX.out, hb1⟩

set_option maxHeartbeats 800000 in
set_option maxRecDepth 100000 in
theorem claby_any (m : Mod) (c : Cla) (t : Sto) (v u : Value) (bk : Nat) (w : World) (hm : checkM m = 0) (ht : checkV m.vars t = 0) (hc : claE m.vars c = 0) (hu : LArg w u c) (hv : RArg w v t) (h4 : w.cell? ⟨bk, 0, none⟩ = some u) :
    Calls Tryz.prog 61 #[v, .pointer (some ⟨bk, 0, none⟩)] w fun e w' => ∃ x, e = .returned x ∧ RArg w' x (unitS t c) ∧ Below w.heap.size w w' := by
  have HU : Hid (LArg w u c) := hu
  have HV : Hid (RArg w v t) := hv
  have HCI : Hid (ClaIn t c) := claIn_of m.vars t c ((checkV_ok _ _).1 ht).1 hc
  obtain ⟨hn6, hr6⟩ := rows_short m t hm ht
  have HR6 : Hid (∀ r ∈ t, r.length ≤ 6) := hr6
  obtain ⟨a1, c1, rfl, _, _⟩ := hu
  obtain ⟨a3, c3, rfl, _, _⟩ := hv
  obtain ⟨M, hM⟩ : ∃ M, unitS t c = M := ⟨_, rfl⟩
  rw [hM]
  have HMM : Hid (unitS t c = M) := hM
  clear hm ht hc hr6 hM
  go_enter Tryz.func61, Tryz.ntmps61
  go_wp2_with fail
  refine (unit_any t c _ _ _ HV.out HU.out HCI.out hn6 HR6.out).mono ?_
  rintro e w1 ⟨x, rfl, hx, hb1⟩
  rw [HMM.out] at hx
  have HX : Hid (RArg w1 x M) := hx
  obtain ⟨ax, cx, rfl, _, _⟩ := hx
  go_wp2
  go_ret
  exact ⟨_, rfl, HX.out, hb1⟩

/-- The blocks that ways hang on: what came in, and what is new but for the list itself. -/
def Hangs (N0 N1 M B : Nat) : Nat → Prop := fun k => (k < N0 ∨ N1 ≤ k) ∧ k < M ∧ k ≠ B

set_option maxHeartbeats 1600000 in
set_option maxRecDepth 100000 in
theorem bycons_any (m : Mod) (vs cs : Value) (W0 w : World) (hck : checkM m = 0) (hma : MArg W0 vs cs m) (hW : Below W0.heap.size W0 w) :
    Calls Tryz.prog 25 #[modV vs cs m] w fun e w' => ∃ (B : Nat) (cells : List Value), e = .returned (.slice (some ⟨B, 0, none⟩) m.cons.length m.cons.length) ∧ (w.heap.size ≤ B ∧ B < w'.heap.size) ∧
      w'.ownsRow w.heap.size 86 1 (.slice (some ⟨B, 0, none⟩) m.cons.length m.cons.length) m.cons.length cells ∧
      (∀ (i : Nat) (f : Sto → Sto), (conSteps m)[i]? = some f → ∃ y, cells[i]? = some y ∧ ByS (Hangs W0.heap.size w.heap.size w'.heap.size B) (fun t => checkV m.vars t = 0) f y w') ∧ Below w.heap.size w w' := by
  have HMA : Hid (∀ w' : World, Below W0.heap.size W0 w' → MArg w' vs cs m) := fun w' h => MArg.below h hma
  have HW0 : Hid (Below W0.heap.size W0 w) := hW
  have HCK : Hid (checkM m = 0) := hck
  have hc8 : m.cons.length ≤ 8 := (checkM_vars m hck).2.2.1
  obtain ⟨⟨a1, c1, rfl, _, _⟩, ⟨a2, c2, rfl, _, _⟩⟩ := hma
  obtain ⟨W, hWe⟩ : ∃ W : World, W = w.alloc (.cells #[.slice a1 m.vars.length c1, .slice a2 m.cons.length c2, .int .i64 m.goal, .int .i64 m.var] 25) := ⟨_, rfl⟩
  have HBW : Hid (Below w.heap.size w W) := by rw [hWe]; exact below_alloc _ _
  have hsz : W.heap.size = w.heap.size + 1 := by rw [hWe]; simp
  have HD : Hid (W.cell? ⟨w.heap.size, 0, none⟩ = some (.slice a1 m.vars.length c1) ∧ W.cell? ⟨w.heap.size, 1, none⟩ = some (.slice a2 m.cons.length c2) ∧ W.cell? ⟨w.heap.size, 2, none⟩ = some (.int .i64 m.goal) ∧ W.cell? ⟨w.heap.size, 3, none⟩ = some (.int .i64 m.var)) := by
    rw [hWe]
    refine ⟨?_, ?_, ?_, ?_⟩ <;> simp
  obtain ⟨wm, hrun, hown, hbm⟩ := make_ways m.cons.length (by omega) W
  have d1 := (hbm.cell (p := ⟨w.heap.size, 1, none⟩) (by simp only; omega)).trans HD.out.2.1
  obtain ⟨B, hB⟩ : ∃ B, B = W.heap.size := ⟨_, rfl⟩
  rw [← hB] at hrun hown hbm
  have HOWN : Hid (wm.ownsRow B 86 1 (.slice (some ⟨B, 0, none⟩) m.cons.length m.cons.length) m.cons.length (List.replicate m.cons.length .nilFunc)) := hown
  have HBM : Hid (Below B W wm) := hbm
  have hBw : w.heap.size < B := by omega
  have HBS : Hid (B = w.heap.size + 1) := hB.trans hsz
  have HBS2 : Hid (B = W.heap.size) := hB
  rw [hWe] at hrun
  clear hck hW hown hbm hsz hB hWe
  unfold modV
  go_enter Tryz.func25, Tryz.ntmps25
  go_wp2_with fail
  clear hrun d1
  go_loopw [12] (fun i wr => ∃ (k : Nat) (cells : List Value), k ≤ m.cons.length ∧ i = .int .i64 k ∧ Hid (wr.ownsRow B 86 1 (.slice (some ⟨B, 0, none⟩) m.cons.length m.cons.length) m.cons.length cells) ∧
      Hid (∀ j : Nat, j < k → ∃ bk, cells[j]? = some (.func (.func 58) #[] #[.pointer (some ⟨w.heap.size, 0, none⟩), .pointer (some ⟨bk, 0, none⟩)]) ∧ B < bk ∧ bk < wr.heap.size ∧ wr.cell? ⟨bk, 0, none⟩ = some (.int .i64 (j : Int))) ∧ Hid (Below B W wr)) (fun i _ => m.cons.length - (intOf i).toNat)
  case atStart => exact ⟨0, _, by omega, rfl, HOWN, fun j hj => absurd hj (Nat.not_lt_zero _), HBM⟩
  case round =>
    obtain ⟨k, cells, hk, rfl, HOW, HJ, HB⟩ := hrel
    by_cases hlt : k < m.cons.length
    · have hlen : cells.length = m.cons.length := by have := HOW.out.1; omega
      obtain ⟨y, hy⟩ : ∃ y, cells[k]? = some y := ⟨cells[k]'(by omega), by simp⟩
      have e3 : wr.cell? ⟨B, k, none⟩ = some y := by rw [HOW.out.cellAt k (by omega)]; exact hy
      have e4 := HOW.out.frozenAt k
      have hBl : B < wr.heap.size := (HOW.out.lt B rfl).2
      have HNX : Hid (∃ (cells' : List Value), ((wr.setCell ⟨B, k, none⟩ (.func (.func 58) #[] #[.pointer (some ⟨w.heap.size, 0, none⟩), .pointer (some ⟨wr.heap.size, 0, none⟩)])).alloc (.cells #[.int .i64 (k : Int)] 3)).ownsRow B 86 1 (.slice (some ⟨B, 0, none⟩) m.cons.length m.cons.length) m.cons.length cells' ∧
          (∀ j : Nat, j < k + 1 → ∃ bk, cells'[j]? = some (.func (.func 58) #[] #[.pointer (some ⟨w.heap.size, 0, none⟩), .pointer (some ⟨bk, 0, none⟩)]) ∧ B < bk ∧ bk < ((wr.setCell ⟨B, k, none⟩ (.func (.func 58) #[] #[.pointer (some ⟨w.heap.size, 0, none⟩), .pointer (some ⟨wr.heap.size, 0, none⟩)])).alloc (.cells #[.int .i64 (k : Int)] 3)).heap.size ∧
            ((wr.setCell ⟨B, k, none⟩ (.func (.func 58) #[] #[.pointer (some ⟨w.heap.size, 0, none⟩), .pointer (some ⟨wr.heap.size, 0, none⟩)])).alloc (.cells #[.int .i64 (k : Int)] 3)).cell? ⟨bk, 0, none⟩ = some (.int .i64 (j : Int))) ∧
          Below B W ((wr.setCell ⟨B, k, none⟩ (.func (.func 58) #[] #[.pointer (some ⟨w.heap.size, 0, none⟩), .pointer (some ⟨wr.heap.size, 0, none⟩)])).alloc (.cells #[.int .i64 (k : Int)] 3))) := by
        refine ⟨_, ((HOW.out.stored k _).1).alloc _, fun j hj => ?_, (HB.out.setCell (Nat.le_refl _) _).alloc (by simp; omega) _⟩
        by_cases hjk : j = k
        · subst hjk
          refine ⟨wr.heap.size, by rw [List.getElem?_set_self (by omega)], hBl, by simp, ?_⟩
          exact alloc_here _ _ _ _ (by simp)
        · obtain ⟨bk, h1, h2, h3, h4⟩ := HJ.out j (by omega)
          refine ⟨bk, by rw [List.getElem?_set_ne (by omega)]; exact h1, h2, by simp; omega, ?_⟩
          exact (World.cell?_alloc_past _ _ _ (by simp; exact h3)).trans ((World.cell?_of_block (Below.heap_setCell _ _ _ _ (by simp only; omega))).trans h4)
      clear hy hlen
      go_wp2
      go_roundw
      case rel =>
        obtain ⟨cells', n1, n2, n3⟩ := HNX.out
        exact ⟨k + 1, cells', by omega, by go_num, n1, n2, n3⟩
      case measure => simp [intOf]; omega
    · have HEND : Hid (∃ (cells : List Value), wr.ownsRow w.heap.size 86 1 (.slice (some ⟨B, 0, none⟩) m.cons.length m.cons.length) m.cons.length cells ∧
          (∀ (i : Nat) (f : Sto → Sto), (conSteps m)[i]? = some f → ∃ y, cells[i]? = some y ∧ ByS (Hangs W0.heap.size w.heap.size wr.heap.size B) (fun t => checkV m.vars t = 0) f y wr)) := by
        refine ⟨cells, own_mono HOW.out (by omega), fun i f hf => ?_⟩
        unfold conSteps at hf
        rw [List.getElem?_map] at hf
        obtain ⟨c, hc, rfl⟩ := Option.map_eq_some_iff.1 hf
        have hi : i < m.cons.length := (List.getElem?_eq_some_iff.1 hc).1
        obtain ⟨bk, h1, h2, h3, h4⟩ := HJ.out i (by omega)
        refine ⟨_, h1, _, _, rfl, enters_con, fun t v w' ht hkp hv => ?_⟩
        have hwr : w.heap.size < wr.heap.size := by have := HB.out.size; have := HBS2.out; omega
        have hS0 : Hangs W0.heap.size w.heap.size wr.heap.size B w.heap.size := ⟨Or.inr (Nat.le_refl _), hwr, by omega⟩
        have hSk : Hangs W0.heap.size w.heap.size wr.heap.size B bk := ⟨Or.inr (by omega), h3, by omega⟩
        have hle0 : W0.heap.size ≤ w.heap.size := HW0.out.size
        have hb0 : Below W0.heap.size W0 w' := by
          have q1 : Below W0.heap.size W0 W := HW0.out.trans (HBW.out.mono hle0)
          have q2 : Below W0.heap.size W0 wr := q1.trans (HB.out.mono (by omega))
          exact q2.trans (hkp.to (fun k hk => ⟨Or.inl hk, by omega, by omega⟩))
        obtain ⟨p0, p1, p2, p3⟩ := HD.out
        have cm : ∀ o, w'.cell? ⟨w.heap.size, o, none⟩ = W.cell? ⟨w.heap.size, o, none⟩ := fun o => (hkp.cell (p := ⟨w.heap.size, o, none⟩) hS0).trans (HB.out.cell (p := ⟨w.heap.size, o, none⟩) hBw)
        exact conby_any m i c t _ _ v w.heap.size bk w' HCK.out ht hc (HMA.out _ hb0) hv ((cm 0).trans p0) ((cm 1).trans p1) ((cm 2).trans p2) ((cm 3).trans p3) ((hkp.cell (p := ⟨bk, 0, none⟩) hSk).trans h4)
      have hBl : B < wr.heap.size := (HOW.out.lt B rfl).2
      have HBE : Hid (Below w.heap.size w wr) := HBW.out.trans (HB.out.mono (by omega))
      go_wp2
      go_ret
      obtain ⟨cells', n1, n2⟩ := HEND.out
      exact ⟨B, cells', rfl, ⟨by omega, hBl⟩, n1, n2, HBE.out⟩

set_option maxHeartbeats 1600000 in
set_option maxRecDepth 100000 in
theorem bycla_any (m : Mod) (l : List Cla) (u : Value) (W0 w : World) (hck : checkM m = 0) (hle : clasE m.vars l = 0) (hu : LLArg W0 u l) (hW : Below W0.heap.size W0 w) :
    Calls Tryz.prog 27 #[u] w fun e w' => ∃ (B : Nat) (cells : List Value), e = .returned (.slice (some ⟨B, 0, none⟩) l.length l.length) ∧ (w.heap.size ≤ B ∧ B < w'.heap.size) ∧
      w'.ownsRow w.heap.size 86 1 (.slice (some ⟨B, 0, none⟩) l.length l.length) l.length cells ∧
      (∀ (i : Nat) (f : Sto → Sto), (claSteps l)[i]? = some f → ∃ y, cells[i]? = some y ∧ ByS (Hangs W0.heap.size w.heap.size w'.heap.size B) (fun t => checkV m.vars t = 0) f y w') ∧ Below w.heap.size w w' := by
  have HW0 : Hid (Below W0.heap.size W0 w) := hW
  have HCK : Hid (checkM m = 0) := hck
  obtain ⟨hl600, hall⟩ := clasE_ok _ _ hle
  have HALL : Hid (∀ c ∈ l, claE m.vars c = 0) := hall
  obtain ⟨a, cc, rfl, hm, hr⟩ := hu
  have HV : Hid (∀ (i : Nat) (t : Cla), l[i]? = some t → ∃ b off x, a = some ⟨b, off, none⟩ ∧ b < W0.heap.size ∧ W0.cell? ⟨b, off + i, none⟩ = some x ∧ LArg W0 x t) := hr
  unfold maxLen at hm
  obtain ⟨hm1, hm⟩ := hm
  obtain ⟨wm, hrun, hown, hbm⟩ := make_ways l.length (by omega) w
  have HBM : Hid (Below w.heap.size w wm) := hbm
  obtain ⟨B, hB⟩ : ∃ B, B = w.heap.size := ⟨_, rfl⟩
  rw [← hB] at hrun hown
  have HOWN : Hid (wm.ownsRow B 86 1 (.slice (some ⟨B, 0, none⟩) l.length l.length) l.length (List.replicate l.length .nilFunc)) := hown
  have HBS : Hid (B = w.heap.size) := hB
  clear hck hW hown hbm hB hle hall hr
  go_enter Tryz.func27, Tryz.ntmps27
  go_wp2_with fail
  clear hrun
  go_loopw [11] (fun i wr => ∃ (k : Nat) (cells : List Value), k ≤ l.length ∧ i = .int .i64 k ∧ Hid (wr.ownsRow B 86 1 (.slice (some ⟨B, 0, none⟩) l.length l.length) l.length cells) ∧
      Hid (∀ (j : Nat) (c : Cla), j < k → l[j]? = some c → ∃ bk x, cells[j]? = some (.func (.func 61) #[] #[.pointer (some ⟨bk, 0, none⟩)]) ∧ B < bk ∧ bk < wr.heap.size ∧ wr.cell? ⟨bk, 0, none⟩ = some x ∧ LArg W0 x c) ∧ Hid (Below w.heap.size w wr)) (fun i _ => l.length - (intOf i).toNat)
  case atStart => exact ⟨0, _, by omega, rfl, HOWN, fun j c hj => absurd hj (Nat.not_lt_zero _), HBM⟩
  case round =>
    obtain ⟨k, cells, hk, rfl, HOW, HJ, HB⟩ := hrel
    by_cases hlt : k < l.length
    · obtain ⟨t, ht⟩ : ∃ t, l[k]? = some t := ⟨l[k], by simp [hlt]⟩
      obtain ⟨b, off, x, ha, hb, q0, hx⟩ := HV.out k t ht
      have HX : Hid (LArg W0 x t) := hx
      have HTT : Hid (l[k]? = some t) := ht
      obtain ⟨a5, c5, rfl, _, _⟩ := hx
      have hb1 : b < w.heap.size := Nat.lt_of_lt_of_le hb HW0.out.size
      have hb2 : b < wr.heap.size := Nat.lt_of_lt_of_le hb1 HB.out.size
      have hc0 := (HB.out.cell (p := ⟨b, off + k, none⟩) hb1).trans ((HW0.out.cell (p := ⟨b, off + k, none⟩) hb).trans q0)
      subst ha
      have hlen : cells.length = l.length := by have := HOW.out.1; omega
      obtain ⟨y, hy⟩ : ∃ y, cells[k]? = some y := ⟨cells[k]'(by omega), by simp⟩
      have e3 : wr.cell? ⟨B, k, none⟩ = some y := by rw [HOW.out.cellAt k (by omega)]; exact hy
      have e4 := HOW.out.frozenAt k
      have hBl : B < wr.heap.size := (HOW.out.lt B rfl).2
      have HNX : Hid (∃ (cells' : List Value), ((wr.setCell ⟨B, k, none⟩ (.func (.func 61) #[] #[.pointer (some ⟨wr.heap.size, 0, none⟩)])).alloc (.cells #[.slice a5 t.length c5] 57)).ownsRow B 86 1 (.slice (some ⟨B, 0, none⟩) l.length l.length) l.length cells' ∧
          (∀ (j : Nat) (c : Cla), j < k + 1 → l[j]? = some c → ∃ bk x, cells'[j]? = some (.func (.func 61) #[] #[.pointer (some ⟨bk, 0, none⟩)]) ∧ B < bk ∧ bk < ((wr.setCell ⟨B, k, none⟩ (.func (.func 61) #[] #[.pointer (some ⟨wr.heap.size, 0, none⟩)])).alloc (.cells #[.slice a5 t.length c5] 57)).heap.size ∧
            ((wr.setCell ⟨B, k, none⟩ (.func (.func 61) #[] #[.pointer (some ⟨wr.heap.size, 0, none⟩)])).alloc (.cells #[.slice a5 t.length c5] 57)).cell? ⟨bk, 0, none⟩ = some x ∧ LArg W0 x c) ∧
          Below w.heap.size w ((wr.setCell ⟨B, k, none⟩ (.func (.func 61) #[] #[.pointer (some ⟨wr.heap.size, 0, none⟩)])).alloc (.cells #[.slice a5 t.length c5] 57))) := by
        refine ⟨_, ((HOW.out.stored k _).1).alloc _, fun j c hj hc => ?_, (HB.out.setCell (by rw [HBS.out]; exact Nat.le_refl _) _).alloc (by simp; exact HB.out.size) _⟩
        by_cases hjk : j = k
        · subst hjk
          rw [HTT.out] at hc; cases hc
          refine ⟨wr.heap.size, _, by rw [List.getElem?_set_self (by omega)], hBl, by simp, ?_, HX.out⟩
          exact alloc_here _ _ _ _ (by simp)
        · obtain ⟨bk, x, h1, h2, h3, h4, h5⟩ := HJ.out j c (by omega) hc
          refine ⟨bk, x, by rw [List.getElem?_set_ne (by omega)]; exact h1, h2, by simp; omega, ?_, h5⟩
          exact (World.cell?_alloc_past _ _ _ (by simp; exact h3)).trans ((World.cell?_of_block (Below.heap_setCell _ _ _ _ (by simp only; omega))).trans h4)
      clear hy hlen ht q0 hb hb1
      go_wp2
      go_roundw
      case rel =>
        obtain ⟨cells', n1, n2, n3⟩ := HNX.out
        exact ⟨k + 1, cells', by omega, by go_num, n1, n2, n3⟩
      case measure => simp [intOf]; omega
    · have HEND : Hid (∃ (cells : List Value), wr.ownsRow w.heap.size 86 1 (.slice (some ⟨B, 0, none⟩) l.length l.length) l.length cells ∧
          (∀ (i : Nat) (f : Sto → Sto), (claSteps l)[i]? = some f → ∃ y, cells[i]? = some y ∧ ByS (Hangs W0.heap.size w.heap.size wr.heap.size B) (fun t => checkV m.vars t = 0) f y wr)) := by
        refine ⟨cells, own_mono HOW.out (by rw [HBS.out]; exact Nat.le_refl _), fun i f hf => ?_⟩
        unfold claSteps at hf
        rw [List.getElem?_map] at hf
        obtain ⟨c, hc, rfl⟩ := Option.map_eq_some_iff.1 hf
        have hi : i < l.length := (List.getElem?_eq_some_iff.1 hc).1
        obtain ⟨bk, x, h1, h2, h3, h4, h5⟩ := HJ.out i c (by omega) hc
        refine ⟨_, h1, _, _, rfl, enters_cla, fun t v w' ht hkp hv => ?_⟩
        have hBS := HBS.out
        have hSk : Hangs W0.heap.size w.heap.size wr.heap.size B bk := ⟨Or.inr (by omega), h3, by omega⟩
        have hle0 : W0.heap.size ≤ w.heap.size := HW0.out.size
        have hle1 : w.heap.size ≤ wr.heap.size := HB.out.size
        have hb0 : Below W0.heap.size W0 w' := by
          have q2 : Below W0.heap.size W0 wr := HW0.out.trans (HB.out.mono hle0)
          exact q2.trans (hkp.to (fun k hk => ⟨Or.inl hk, by omega, by omega⟩))
        exact claby_any m c t v x bk w' HCK.out ht (HALL.out c (List.mem_of_getElem? hc)) (LArg.below hb0 h5) hv ((hkp.cell (p := ⟨bk, 0, none⟩) hSk).trans h4)
      have hBl : B < wr.heap.size := (HOW.out.lt B rfl).2
      go_wp2
      go_ret
      obtain ⟨cells', n1, n2⟩ := HEND.out
      exact ⟨B, cells', rfl, ⟨by rw [HBS.out]; exact Nat.le_refl _, hBl⟩, n1, n2, HB.out⟩
end Go.Proofs.YtggkbhafbhhhhadGreat
