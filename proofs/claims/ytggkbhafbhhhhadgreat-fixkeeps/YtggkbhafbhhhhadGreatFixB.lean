/-
  WALKS: package fix: Cons, Units, Both.
-/
import Derived.Test.YtggkbhafbhhhhadGreatFixA
import Derived.Test.YtggkbhafbhhhhadGreatNarC
namespace Go.Proofs.YtggkbhafbhhhhadGreat
open Go.RowKit

theorem conS_len (m : Mod) : (conSteps m).length = m.cons.length := by simp [conSteps]
theorem claS_len (l : List Cla) : (claSteps l).length = l.length := by simp [claSteps]
theorem fix_bad (chk : Int) (fs : List (Sto → Sto)) (vs : List MVar) (s : Sto) (h : chk ≠ 0) : FixR chk fs vs s [] chk := ⟨fun _ => ⟨rfl, rfl⟩, fun h0 => absurd h0 h⟩

set_option maxHeartbeats 1600000 in
set_option maxRecDepth 100000 in
theorem fcons_any (m : Mod) (s : Sto) (vs cs v : Value) (w : World) (hm : MArg w vs cs m) (hv : RArg w v s) :
    Calls Tryz.prog 6 #[modV vs cs m, v] w fun e w' => ∃ x er t, e = .returned (.tuple #[x, .int .i64 er]) ∧ RArg w' x t ∧ FixR (checkL m [s]) (conSteps m) m.vars s t er ∧ Below w.heap.size w w' := by
  have HM0 : Hid (MArg w vs cs m) := hm
  have HMA : Hid (∀ w' : World, Below w.heap.size w w' → MArg w' vs cs m) := fun w' h => MArg.below h hm
  have HVA : Hid (∀ w' : World, Below w.heap.size w w' → RArg w' v s) := fun w' h => RArg.below h hv
  obtain ⟨⟨a1, c1, rfl, _, _⟩, ⟨a2, c2, rfl, _, _⟩⟩ := hm
  obtain ⟨a3, c3, rfl, _, _⟩ := hv
  obtain ⟨er, her⟩ : ∃ er, checkL m [s] = er := ⟨_, rfl⟩
  have HER : Hid (checkL m [s] = er) := her
  rw [her]
  clear her
  unfold modV
  go_enter Tryz.func6, Tryz.ntmps6
  go_wp2_with fail
  refine (scheck_any m s (.slice a1 m.vars.length c1) (.slice a2 m.cons.length c2) _ _ ?_ ?_).mono ?_
  · exact HMA.out _ (below_alloc _ _)
  · exact HVA.out _ (below_alloc _ _)
  rintro e w1 ⟨rfl, hb1⟩
  rw [HER.out]
  have d0 : w1.cell? ⟨w.heap.size, 0, none⟩ = some (.slice a1 m.vars.length c1) := (hb1.cell (by simp)).trans (by simp)
  have d1 : w1.cell? ⟨w.heap.size, 1, none⟩ = some (.slice a2 m.cons.length c2) := (hb1.cell (by simp)).trans (by simp)
  have d2 : w1.cell? ⟨w.heap.size, 2, none⟩ = some (.int .i64 m.goal) := (hb1.cell (by simp)).trans (by simp)
  have d3 : w1.cell? ⟨w.heap.size, 3, none⟩ = some (.int .i64 m.var) := (hb1.cell (by simp)).trans (by simp)
  have HB1 : Hid (Below w.heap.size w w1) := (below_alloc _ _).trans (hb1.mono (by simp))
  clear hb1
  by_cases he : er = 0
  · subst he
    obtain ⟨o1, o2⟩ := (checkL_one m s).1 HER.out
    have HO1 : Hid (checkM m = 0) := o1
    have HO2 : Hid (checkV m.vars s = 0) := o2
    clear o1 o2
    go_wp2_with fail
    refine (show Calls Tryz.prog 25 #[.agg #[.slice a1 m.vars.length c1, .slice a2 m.cons.length c2, .int .i64 m.goal, .int .i64 m.var]] w1 _ from bycons_any m (.slice a1 m.vars.length c1) (.slice a2 m.cons.length c2) w w1 HO1.out HM0.out HB1.out).mono ?_
    rintro e w2 ⟨B, cells, rfl, ⟨hB1, hB2⟩, hown, hby, hb2⟩
    have HWA : Hid (WArg (fun t => checkV m.vars t = 0) w2 (.slice (some ⟨B, 0, none⟩) m.cons.length m.cons.length) (conSteps m)) := by
      refine own_ways (base := w1.heap.size) (cells := cells) (by rw [conS_len]; exact hown) fun i f hf => ?_
      obtain ⟨y, hy, h⟩ := hby i f hf
      exact ⟨y, hy, h.plain fun k hk => hk.2.1⟩
    have HB2 : Hid (Below w.heap.size w w2) := HB1.out.trans (hb2.mono HB1.out.size)
    clear hown hby hb2 d0 d1 d2 d3
    go_wp2_with fail
    refine (till_any m (conSteps m) s _ _ _ HO1.out HO2.out (con_steps m HO1.out) (con_right m) (HVA.out _ HB2.out) HWA.out).mono ?_
    rintro e w3 ⟨x, t, rfl, hx, hg, hcv, hb3⟩
    have HX : Hid (RArg w3 x t) := hx
    have HF : Hid (FixR 0 (conSteps m) m.vars s t 0) := ⟨fun h => absurd rfl h, fun _ => ⟨rfl, hg, hcv⟩⟩
    obtain ⟨ax, cx, rfl, _, _⟩ := hx
    have hB3 : Below w.heap.size w w3 := HB2.out.trans (hb3.mono HB2.out.size)
    clear hg hcv hb3
    go_wp2
    go_ret2
    exact ⟨_, 0, t, rfl, HX.out, HF.out, hB3⟩
  · have he2 : (er != 0) = true := by simpa using he
    have HF : Hid (FixR er (conSteps m) m.vars s [] er) := fix_bad _ _ _ _ he
    clear he
    go_wp2
    go_ret2
    exact ⟨_, er, [], rfl, ⟨_, _, rfl, ⟨Nat.le_refl _, Nat.zero_le _⟩, fun i r h => by simp at h⟩, HF.out, HB1.out⟩

set_option maxHeartbeats 1600000 in
set_option maxRecDepth 100000 in
theorem funits_any (m : Mod) (s : Sto) (l : List Cla) (vs cs v u : Value) (w : World) (hm : MArg w vs cs m) (hv : RArg w v s) (hu : LLArg w u l) :
    Calls Tryz.prog 7 #[modV vs cs m, v, u] w fun e w' => ∃ x er t, e = .returned (.tuple #[x, .int .i64 er]) ∧ RArg w' x t ∧ FixR (bothE m s l) (claSteps l) m.vars s t er ∧ Below w.heap.size w w' := by
  have HMA : Hid (∀ w' : World, Below w.heap.size w w' → MArg w' vs cs m) := fun w' h => MArg.below h hm
  have HVA : Hid (∀ w' : World, Below w.heap.size w w' → RArg w' v s) := fun w' h => RArg.below h hv
  have HU0 : Hid (LLArg w u l) := hu
  obtain ⟨⟨a1, c1, rfl, _, _⟩, ⟨a2, c2, rfl, _, _⟩⟩ := hm
  obtain ⟨a3, c3, rfl, _, _⟩ := hv
  obtain ⟨a4, c4, rfl, _, _⟩ := hu
  obtain ⟨er, her⟩ : ∃ er, bothE m s l = er := ⟨_, rfl⟩
  have HER : Hid (bothE m s l = er) := her
  rw [her]
  clear her
  unfold modV
  go_enter Tryz.func7, Tryz.ntmps7
  go_wp2_with fail
  refine (fin_any m s l (.slice a1 m.vars.length c1) (.slice a2 m.cons.length c2) _ _ _ ?_ ?_ ?_).mono ?_
  · exact HMA.out _ (below_alloc _ _)
  · exact HVA.out _ (below_alloc _ _)
  · exact LLArg.below (below_alloc _ _) HU0.out
  rintro e w1 ⟨rfl, hb1⟩
  rw [HER.out]
  have HB1 : Hid (Below w.heap.size w w1) := (below_alloc _ _).trans (hb1.mono (by simp))
  clear hb1
  by_cases he : er = 0
  · subst he
    obtain ⟨o0, o3⟩ := bothE_ok m s l HER.out
    obtain ⟨o1, o2⟩ := (checkL_one m s).1 o0
    have HO1 : Hid (checkM m = 0) := o1
    have HO2 : Hid (checkV m.vars s = 0) := o2
    have HO3 : Hid (clasE m.vars l = 0) := o3
    clear o0 o1 o2 o3
    go_wp2_with fail
    refine (bycla_any m l _ w _ HO1.out HO3.out HU0.out HB1.out).mono ?_
    rintro e w2 ⟨B, cells, rfl, ⟨hB1, hB2⟩, hown, hby, hb2⟩
    have HWA : Hid (WArg (fun t => checkV m.vars t = 0) w2 (.slice (some ⟨B, 0, none⟩) l.length l.length) (claSteps l)) := by
      have h := own_ways (ok := fun t => checkV m.vars t = 0) (fs := claSteps l) (base := w1.heap.size) (cells := cells) (by rw [claS_len]; exact hown) fun i f hf => by
        obtain ⟨y, hy, h⟩ := hby i f hf
        exact ⟨y, hy, h.plain fun k hk => hk.2.1⟩
      exact h
    have HB2 : Hid (Below w.heap.size w w2) := HB1.out.trans (hb2.mono HB1.out.size)
    clear hown hby hb2
    go_wp2_with fail
    refine (till_any m (claSteps l) s _ _ _ HO1.out HO2.out (cla_steps l) (cla_right _ l) (HVA.out _ HB2.out) HWA.out).mono ?_
    rintro e w3 ⟨x, t, rfl, hx, hg, hcv, hb3⟩
    have HX : Hid (RArg w3 x t) := hx
    have HF : Hid (FixR 0 (claSteps l) m.vars s t 0) := ⟨fun h => absurd rfl h, fun _ => ⟨rfl, hg, hcv⟩⟩
    obtain ⟨ax, cx, rfl, _, _⟩ := hx
    have hB3 : Below w.heap.size w w3 := HB2.out.trans (hb3.mono HB2.out.size)
    clear hg hcv hb3
    go_wp2
    go_ret2
    exact ⟨_, 0, t, rfl, HX.out, HF.out, hB3⟩
  · have he2 : (er != 0) = true := by simpa using he
    have HF : Hid (FixR er (claSteps l) m.vars s [] er) := fix_bad _ _ _ _ he
    clear he
    go_wp2
    go_ret2
    exact ⟨_, er, [], rfl, ⟨_, _, rfl, ⟨Nat.le_refl _, Nat.zero_le _⟩, fun i r h => by simp at h⟩, HF.out, HB1.out⟩

/-- Both lists of ways lie there. -/
structure RdyW (m : Mod) (l : List Cla) (N B1 B2 : Nat) (c1 c2 : List Value) (Z : World) : Prop where
  hN : N ≤ B1 ∧ N ≤ Z.heap.size
  own1 : Z.ownsRow N 86 1 (.slice (some ⟨B1, 0, none⟩) l.length l.length) l.length c1
  own2 : Z.ownsRow N 86 1 (.slice (some ⟨B2, 0, none⟩) m.cons.length m.cons.length) m.cons.length c2
  by1 : ∃ S : Nat → Prop, (∀ k, S k → k < Z.heap.size ∧ k ≠ B1) ∧ ∀ (i : Nat) (f : Sto → Sto), (claSteps l)[i]? = some f → ∃ y, c1[i]? = some y ∧ ByS S (fun t => checkV m.vars t = 0) f y Z
  by2 : ∃ S : Nat → Prop, (∀ k, S k → k < Z.heap.size ∧ k ≠ B1) ∧ ∀ (i : Nat) (f : Sto → Sto), (conSteps m)[i]? = some f → ∃ y, c2[i]? = some y ∧ ByS S (fun t => checkV m.vars t = 0) f y Z

theorem rdy1 {m : Mod} {l : List Cla} {N0 N B1 B2 : Nat} {c1 c2 : List Value} {Y wa wb : World} (h0 : N0 ≤ N) (hY : N ≤ Y.heap.size) (hb1 : Y.heap.size ≤ B1 ∧ B1 < wa.heap.size)
    (o1 : wa.ownsRow Y.heap.size 86 1 (.slice (some ⟨B1, 0, none⟩) l.length l.length) l.length c1)
    (y1 : ∀ (i : Nat) (f : Sto → Sto), (claSteps l)[i]? = some f → ∃ y, c1[i]? = some y ∧ ByS (Hangs N0 Y.heap.size wa.heap.size B1) (fun t => checkV m.vars t = 0) f y wa)
    (o2 : wb.ownsRow wa.heap.size 86 1 (.slice (some ⟨B2, 0, none⟩) m.cons.length m.cons.length) m.cons.length c2)
    (y2 : ∀ (i : Nat) (f : Sto → Sto), (conSteps m)[i]? = some f → ∃ y, c2[i]? = some y ∧ ByS (Hangs N0 wa.heap.size wb.heap.size B2) (fun t => checkV m.vars t = 0) f y wb)
    (hb : Below wa.heap.size wa wb) : RdyW m l N B1 B2 c1 c2 wb := by
  have hs := hb.size
  refine ⟨⟨by omega, by omega⟩, own_mono (own_below o1 hb) hY, own_mono o2 (by omega), ⟨Hangs N0 Y.heap.size wa.heap.size B1, fun k hk => ⟨by have := hk.2.1; omega, hk.2.2⟩, fun i f hf => ?_⟩, ⟨Hangs N0 wa.heap.size wb.heap.size B2, fun k hk => ⟨hk.2.1, ?_⟩, y2⟩⟩
  · obtain ⟨y, hy, h⟩ := y1 i f hf
    exact ⟨y, hy, h.keep (KeepS.below hb fun k hk => hk.2.1)⟩
  · rcases hk.1 with h | h
    · omega
    · omega
theorem RdyW.one {m : Mod} {l : List Cla} {N B1 B2 : Nat} {c1 c2 : List Value} {Z : World} (h : RdyW m l N B1 B2 c1 c2 Z) : ∀ u ∈ c2, u.oneCell' = true := by
  intro u hu
  obtain ⟨i, hi⟩ := List.mem_iff_getElem?.1 hu
  have hl : c2.length = m.cons.length := by have := h.own2.1; omega
  have hil : i < (conSteps m).length := by rw [conS_len, ← hl]; exact (List.getElem?_eq_some_iff.1 hi).1
  obtain ⟨S, _, hb⟩ := h.by2
  obtain ⟨y, hy, hby⟩ := hb i _ (List.getElem?_eq_getElem hil)
  rw [hi] at hy; cases hy
  exact hby.one
theorem RdyW.done {m : Mod} {l : List Cla} {N B1 B2 : Nat} {c1 c2 : List Value} {Z w' : World} {v' : Value} (h : RdyW m l N B1 B2 c1 c2 Z) (h2 : w'.ownsRow N 86 1 v' (l.length + m.cons.length) (c1 ++ c2))
    (h3 : Z.grownBy w' (some B1)) : WArg (fun t => checkV m.vars t = 0) w' v' (bothSteps m l) := by
  have hl1 : c1.length = l.length := by have := h.own1.1; omega
  refine own_ways (base := N) (cells := c1 ++ c2) (by unfold bothSteps; rw [List.length_append, claS_len, conS_len]; exact h2) fun i f hf => ?_
  unfold bothSteps at hf
  by_cases hi : i < l.length
  · rw [List.getElem?_append_left (by rw [claS_len]; exact hi)] at hf
    obtain ⟨S, hS, hb⟩ := h.by1
    obtain ⟨y, hy, hby⟩ := hb i f hf
    refine ⟨y, by rw [List.getElem?_append_left (by omega)]; exact hy, ?_⟩
    exact (hby.keep (KeepS.grown h3 fun k hk => ⟨(hS k hk).1, fun e => (hS k hk).2 (Option.some.inj e)⟩)).plain fun k hk => Nat.lt_of_lt_of_le (hS k hk).1 h3.size
  · rw [List.getElem?_append_right (by rw [claS_len]; omega), claS_len] at hf
    obtain ⟨S, hS, hb⟩ := h.by2
    obtain ⟨y, hy, hby⟩ := hb _ f hf
    refine ⟨y, by rw [List.getElem?_append_right (by omega), hl1]; exact hy, ?_⟩
    exact (hby.keep (KeepS.grown h3 fun k hk => ⟨(hS k hk).1, fun e => (hS k hk).2 (Option.some.inj e)⟩)).plain fun k hk => Nat.lt_of_lt_of_le (hS k hk).1 h3.size
theorem held_grown {w1 Z w' : World} {A : Prop} {B1 : Nat} (h : Below w1.heap.size w1 Z ∧ A) (h3 : Z.grownBy w' (some B1)) (hB : w1.heap.size ≤ B1) : Below w1.heap.size w1 w' :=
  h.1.grown h3 h.1.size (fun k hk => by cases hk; exact hB)

set_option maxHeartbeats 3200000 in
set_option maxRecDepth 100000 in
theorem fboth_any (m : Mod) (s : Sto) (l : List Cla) (vs cs v u : Value) (w : World) (hm : MArg w vs cs m) (hv : RArg w v s) (hu : LLArg w u l) :
    Calls Tryz.prog 8 #[modV vs cs m, v, u] w fun e w' => ∃ x er t, e = .returned (.tuple #[x, .int .i64 er]) ∧ RArg w' x t ∧ FixR (bothE m s l) (bothSteps m l) m.vars s t er ∧ Below w.heap.size w w' := by
  have HM0 : Hid (MArg w vs cs m) := hm
  have HMA : Hid (∀ w' : World, Below w.heap.size w w' → MArg w' vs cs m) := fun w' h => MArg.below h hm
  have HVA : Hid (∀ w' : World, Below w.heap.size w w' → RArg w' v s) := fun w' h => RArg.below h hv
  have HU0 : Hid (LLArg w u l) := hu
  obtain ⟨⟨a1, c1, rfl, _, _⟩, ⟨a2, c2, rfl, _, _⟩⟩ := hm
  obtain ⟨a3, c3, rfl, _, _⟩ := hv
  obtain ⟨a4, c4, rfl, _, _⟩ := hu
  obtain ⟨er, her⟩ : ∃ er, bothE m s l = er := ⟨_, rfl⟩
  have HER : Hid (bothE m s l = er) := her
  rw [her]
  clear her
  unfold modV
  go_enter Tryz.func8, Tryz.ntmps8
  go_wp2_with fail
  refine (fin_any m s l (.slice a1 m.vars.length c1) (.slice a2 m.cons.length c2) _ _ _ ?_ ?_ ?_).mono ?_
  · exact HMA.out _ (below_alloc _ _)
  · exact HVA.out _ (below_alloc _ _)
  · exact LLArg.below (below_alloc _ _) HU0.out
  rintro e w1 ⟨rfl, hb1⟩
  rw [HER.out]
  have d0 : w1.cell? ⟨w.heap.size, 0, none⟩ = some (.slice a1 m.vars.length c1) := (hb1.cell (by simp)).trans (by simp)
  have d1 : w1.cell? ⟨w.heap.size, 1, none⟩ = some (.slice a2 m.cons.length c2) := (hb1.cell (by simp)).trans (by simp)
  have d2 : w1.cell? ⟨w.heap.size, 2, none⟩ = some (.int .i64 m.goal) := (hb1.cell (by simp)).trans (by simp)
  have d3 : w1.cell? ⟨w.heap.size, 3, none⟩ = some (.int .i64 m.var) := (hb1.cell (by simp)).trans (by simp)
  have hs1 : w.heap.size < w1.heap.size := by have h := hb1.size; simp at h; omega
  have HB1 : Hid (Below w.heap.size w w1) := (below_alloc _ _).trans (hb1.mono (by simp))
  clear hb1
  by_cases he : er = 0
  · subst he
    obtain ⟨o0, o3⟩ := bothE_ok m s l HER.out
    obtain ⟨o1, o2⟩ := (checkL_one m s).1 o0
    have HO1 : Hid (checkM m = 0) := o1
    have HO2 : Hid (checkV m.vars s = 0) := o2
    have HO3 : Hid (clasE m.vars l = 0) := o3
    have hc8 : m.cons.length ≤ 8 := (checkM_vars m o1).2.2.1
    have hl600 : l.length ≤ 600 := (clasE_ok _ _ o3).1
    obtain ⟨i0, hi, hz0, hz1, hz2⟩ := info_parts Tryz.infoBy
    have HCLA : Hid (∀ Y : World, Below w1.heap.size w1 Y → Calls Tryz.prog 27 #[.slice a4 l.length c4] Y fun e w' => ∃ (B : Nat) (cells : List Value), e = .returned (.slice (some ⟨B, 0, none⟩) l.length l.length) ∧ (Y.heap.size ≤ B ∧ B < w'.heap.size) ∧
      w'.ownsRow Y.heap.size 86 1 (.slice (some ⟨B, 0, none⟩) l.length l.length) l.length cells ∧
      (∀ (i : Nat) (f : Sto → Sto), (claSteps l)[i]? = some f → ∃ y, cells[i]? = some y ∧ ByS (Hangs w.heap.size Y.heap.size w'.heap.size B) (fun t => checkV m.vars t = 0) f y w') ∧ Below Y.heap.size Y w') :=
      fun Y hY => bycla_any m l _ w Y HO1.out HO3.out HU0.out (HB1.out.trans (hY.mono HB1.out.size))
    have HCON : Hid (∀ Y : World, Below w1.heap.size w1 Y → Calls Tryz.prog 25 #[.agg #[.slice a1 m.vars.length c1, .slice a2 m.cons.length c2, .int .i64 m.goal, .int .i64 m.var]] Y fun e w' => ∃ (B : Nat) (cells : List Value), e = .returned (.slice (some ⟨B, 0, none⟩) m.cons.length m.cons.length) ∧ (Y.heap.size ≤ B ∧ B < w'.heap.size) ∧
      w'.ownsRow Y.heap.size 86 1 (.slice (some ⟨B, 0, none⟩) m.cons.length m.cons.length) m.cons.length cells ∧
      (∀ (i : Nat) (f : Sto → Sto), (conSteps m)[i]? = some f → ∃ y, cells[i]? = some y ∧ ByS (Hangs w.heap.size Y.heap.size w'.heap.size B) (fun t => checkV m.vars t = 0) f y w') ∧ Below Y.heap.size Y w') :=
      fun Y hY => bycons_any m (.slice a1 m.vars.length c1) (.slice a2 m.cons.length c2) w Y HO1.out HM0.out (HB1.out.trans (hY.mono HB1.out.size))
    have HTIL : Hid (∀ (Y : World) (u : Value), Below w1.heap.size w1 Y → WArg (fun t => checkV m.vars t = 0) Y u (bothSteps m l) → Calls Tryz.prog 24 #[.slice a3 s.length c3, u] Y fun e w' => ∃ x t, e = .returned x ∧ RArg w' x t ∧ Greatest (bothSteps m l) s t ∧ checkV m.vars t = 0 ∧ Below Y.heap.size Y w') :=
      fun Y u hY hu => till_any m (bothSteps m l) s _ u Y HO1.out HO2.out (both_steps m l HO1.out) (both_right m l) (HVA.out _ (HB1.out.trans (hY.mono HB1.out.size))) hu
    clear o0 o1 o2 o3
    go_wp2_with fail
    go_region_held3 (fun w' => Below w1.heap.size w1 w' ∧ w'.cell? ⟨w.heap.size, 0, none⟩ = some (.slice a1 m.vars.length c1) ∧ w'.cell? ⟨w.heap.size, 1, none⟩ = some (.slice a2 m.cons.length c2) ∧ w'.cell? ⟨w.heap.size, 2, none⟩ = some (.int .i64 m.goal) ∧ w'.cell? ⟨w.heap.size, 3, none⟩ = some (.int .i64 m.var))
      ((refine (fun (hB : Below w1.heap.size w1 _) => ⟨hB, (hB.cell (p := ⟨w.heap.size, 0, none⟩) hs1).trans d0, (hB.cell (p := ⟨w.heap.size, 1, none⟩) hs1).trans d1, (hB.cell (p := ⟨w.heap.size, 2, none⟩) hs1).trans d2, (hB.cell (p := ⟨w.heap.size, 3, none⟩) hs1).trans d3⟩ : Below w1.heap.size w1 _ → _) ?_; first | exact (Below.refl _ _).drew | exact hBt | exact hBp | exact hBb | exact hBa))
      (first
        | (go_at_call 27; refine (HCLA.out _ (show Below w1.heap.size w1 _ ∧ _ ∧ _ ∧ _ ∧ _ by assumption).1).mono ?_; rintro e wa ⟨B1, k1, rfl, hl1, ho1, hy1, hbq⟩; have hBa := held_call (by assumption) hbq)
        | (go_at_call 25; refine (HCON.out _ (show Below w1.heap.size w1 _ ∧ _ ∧ _ ∧ _ ∧ _ by assumption).1).mono ?_; rintro e wb ⟨B2, k2, rfl, hl2, ho2, hy2, hbq⟩; have hrdy := rdy1 (N := w1.heap.size) (Y := w1.drew) (Nat.le_of_lt hs1) (Nat.le_refl _) hl1 ho1 hy1 ho2 hy2 hbq; have hBb := held_call (by assumption) hbq)
        | (go_at_call 24; refine (HTIL.out _ _ (show Below w1.heap.size w1 _ ∧ _ ∧ _ ∧ _ ∧ _ by assumption).1 hway).mono ?_; rintro e wt ⟨x, t, rfl, hx, hg, hcv, hbq⟩; have hBt := held_call (by assumption) hbq; have HX : Hid (RArg wt x t) := hx; obtain ⟨ax, cx, rfl, _, _⟩ := hx)
        | (rw [if_pos (by rfl)]; refine wp_append_own _ _ _ 50 rfl w1.heap.size 86 i0 .nilFunc 1 8 Tryz.underBys hi hz0 hz1 hz2 rfl (by decide) _ _ _ rfl hrdy.own1 ⟨B2, 0, none⟩ _ _ _ rfl hrdy.own2.1 (hrdy.own2.cells rfl) hrdy.one (by unfold maxLen; omega) (by omega) hrdy.hN.2 ?_; intro v' wp hop hgp hnp; have hBp := held_grown (by assumption) hgp hrdy.hN.1; have hway := hrdy.done hop hgp))
    all_goals
      have HF : Hid (FixR 0 (bothSteps m l) m.vars s t 0) := ⟨fun h => absurd rfl h, fun _ => ⟨rfl, hg, hcv⟩⟩
      have hBe : Below w.heap.size w wt := HB1.out.trans (hBt.mono HB1.out.size)
      go_wp2
      go_ret2
      exact ⟨_, 0, t, rfl, HX.out, HF.out, hBe⟩
  · have he2 : (er != 0) = true := by simpa using he
    have HF : Hid (FixR er (bothSteps m l) m.vars s [] er) := fix_bad _ _ _ _ he
    clear he
    go_wp2
    go_ret2
    exact ⟨_, er, [], rfl, ⟨_, _, rfl, ⟨Nat.le_refl _, Nat.zero_le _⟩, fun i r h => by simp at h⟩, HF.out, HB1.out⟩
end Go.Proofs.YtggkbhafbhhhhadGreat
