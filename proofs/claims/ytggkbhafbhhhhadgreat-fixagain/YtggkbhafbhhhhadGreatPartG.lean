/-
  PART 7 of what the proof leans on (FixC, OpnA, OpnB).
-/
import Derived.Test.YtggkbhafbhhhhadGreatPartF
/-
  WALKS: fixBegun, allClauses.
-/
namespace Go.Proofs.YtggkbhafbhhhhadGreat
open Go.RowKit

def begL : List Cla := [[⟨1, 1, 1⟩]]
theorem clas_new (w : World) (B1 B2 : Nat) (h1 : B1 = w.heap.size) (h2 : B2 = w.heap.size + 1) : LLArg ((w.alloc (.cells #[.int .i64 1, .int .i64 1, .int .i64 1] 63)).alloc (.cells #[.slice (some ⟨B1, 0, none⟩) 1 1] 57)) (.slice (some ⟨B2, 0, none⟩) 1 1) begL := by
  subst h1; subst h2
  refine ⟨_, 1, rfl, ⟨by simp [begL], by unfold maxLen; omega⟩, fun i t ht => ?_⟩
  match i, ht with
  | 0, ht =>
    cases ht
    refine ⟨_, 0, .slice (some ⟨w.heap.size, 0, none⟩) 1 1, rfl, by simp, ?_, _, 1, rfl, ⟨by simp, by unfold maxLen; omega⟩, fun i t ht => ?_⟩
    · simp
    · match i, ht with
      | 0, ht =>
        cases ht
        refine ⟨_, 0, rfl, by simp; omega, ?_, ?_, ?_⟩
        · exact (World.cell?_alloc_past _ _ _ (by simp)).trans (World.cell?_alloc_at _ _ _ 0 (by simp))
        · exact (World.cell?_alloc_past _ _ _ (by simp)).trans (World.cell?_alloc_at _ _ _ 1 (by simp))
        · exact (World.cell?_alloc_past _ _ _ (by simp)).trans (World.cell?_alloc_at _ _ _ 2 (by simp))

theorem begf_check : checkL twoM [[[0, 1, 2], [0, 1, 2]]] = 0 := by unfold checkL; rw [if_pos two_checks]; decide
theorem begf_both : bothE twoM [[0, 1, 2], [0, 1, 2]] begL = 0 := by unfold bothE; rw [if_pos begf_check]; decide
theorem begf_con : conSteps twoM = [filtS 2 twoC] := rfl
theorem begf_f (s t : Sto) (h : filterS twoC s = t) (hl : s.length = 2) : filtS 2 twoC s = t := by rw [filt_eq _ _ _ hl]; exact h
theorem begf_1 : filterS twoC [[0, 1, 2], [0, 1, 2]] = [[0, 1], [1, 2]] := by unfold filterS staysB metAll; simp only [two_scopeC]; decide +kernel
theorem begf_2 : filterS twoC [[0, 1], [1, 2]] = [[0, 1], [1, 2]] := by unfold filterS staysB metAll; simp only [two_scopeC]; decide +kernel
theorem begf_3 : filterS twoC [[0, 1, 2], [0, 1]] = [[0], [1]] := by unfold filterS staysB metAll; simp only [two_scopeC]; decide +kernel
theorem begf_4 : filterS twoC [[0], [1]] = [[0], [1]] := by unfold filterS staysB metAll; simp only [two_scopeC]; decide +kernel
theorem begf_a : Greatest (conSteps twoM) [[0, 1, 2], [0, 1, 2]] [[0, 1], [1, 2]] := by
  have hok := con_steps twoM two_checks
  rw [begf_con] at hok ⊢
  have h1 := onway_raw (onway_begin [filtS 2 twoC] [[0, 1, 2], [0, 1, 2]]) _ (List.mem_singleton.2 rfl) (hok _ (List.mem_singleton.2 rfl))
  rw [begf_f _ _ begf_1 rfl] at h1
  refine onway_end h1 (by decide) fun f hf => ?_
  rcases List.mem_singleton.1 hf with rfl
  exact begf_f _ _ begf_2 rfl
theorem begf_b : Greatest (claSteps begL) [[0, 1, 2], [0, 1, 2]] [[0, 1, 2], [0, 1]] := by
  have hok := cla_steps begL
  have h1 := onway_raw (onway_begin (claSteps begL) [[0, 1, 2], [0, 1, 2]]) (fun s => unitS s [⟨1, 1, 1⟩]) (List.mem_singleton.2 rfl) (hok _ (List.mem_singleton.2 rfl))
  have e1 : unitS [[0, 1, 2], [0, 1, 2]] [⟨1, 1, 1⟩] = [[0, 1, 2], [0, 1]] := by decide
  rw [e1] at h1
  refine onway_end h1 (by decide) fun f hf => ?_
  rcases List.mem_singleton.1 hf with rfl
  decide
theorem begf_c : Greatest (bothSteps twoM begL) [[0, 1, 2], [0, 1, 2]] [[0], [1]] := by
  have hok := both_steps twoM begL two_checks
  have hm1 : (fun s => unitS s [⟨1, 1, 1⟩]) ∈ bothSteps twoM begL := List.mem_append.2 (Or.inl (List.mem_singleton.2 rfl))
  have hm2 : filtS 2 twoC ∈ bothSteps twoM begL := List.mem_append.2 (Or.inr (by rw [begf_con]; exact List.mem_singleton.2 rfl))
  have h1 := onway_raw (onway_begin (bothSteps twoM begL) [[0, 1, 2], [0, 1, 2]]) _ hm1 (hok _ hm1)
  have e1 : unitS [[0, 1, 2], [0, 1, 2]] [⟨1, 1, 1⟩] = [[0, 1, 2], [0, 1]] := by decide
  rw [e1] at h1
  have h2 := onway_raw h1 _ hm2 (hok _ hm2)
  rw [begf_f _ _ begf_3 rfl] at h2
  refine onway_end h2 (by decide) fun f hf => ?_
  rcases List.mem_append.1 hf with hf | hf
  · rcases List.mem_singleton.1 hf with rfl
    decide
  · rw [begf_con] at hf
    rcases List.mem_singleton.1 hf with rfl
    exact begf_f _ _ begf_4 rfl
theorem fix_is {chk : Int} {fs : List (Sto → Sto)} {vs : List MVar} {s t A : Sto} {er : Int} (h : FixR chk fs vs s t er) (hc : chk = 0) (hA : Greatest fs s A) (hr : A.all risesB = true) : er = 0 ∧ t = A := by
  obtain ⟨h1, h2, h3⟩ := h.2 hc
  exact ⟨h1, great_unique hA h2 hr ((checkV_ok _ _).1 h3).2.2⟩

set_option maxHeartbeats 1600000 in
set_option maxRecDepth 100000 in
theorem begun_fix (w : World) :
    Calls Tryz.prog 12 #[] w fun e w' => e = .returned (.bool true) ∧ Below w.heap.size w w' := by
  go_enter Tryz.func12, Tryz.ntmps12
  go_wp2_with fail
  refine (two_any _).mono ?_
  rintro e w1 ⟨vs, cs, rfl, hm, hb1⟩
  have HS : Hid (∀ w' : World, Below w1.heap.size w1 w' → RArg w' (.slice (some ⟨w.heap.size + 1 + 1, 0, none⟩) 2 2) [[0, 1, 2], [0, 1, 2]]) := fun w' h => RArg.below (hb1.trans (h.mono hb1.size)) (RArg.below (nb2 _ _ _) (lit2 [0, 1, 2] [0, 1, 2] _ _ _ rfl rfl rfl (by decide) (by decide)))
  have HL : Hid (∀ w' : World, Below w1.heap.size w1 w' → LLArg w' (.slice (some ⟨w.heap.size + 1 + 1 + 1 + 1, 0, none⟩) 1 1) begL) := fun w' h => LLArg.below (hb1.trans (h.mono hb1.size)) (clas_new _ _ _ (by simp) (by simp))
  have HM : Hid (MArg w1 vs cs twoM) := hm
  have HB1 : Hid (Below w.heap.size w w1) := (((below3 _ _ _ _).alloc (by simp; omega) _).alloc (by simp; omega) _).trans (hb1.mono (by simp; omega))
  clear hm hb1
  go_wp2_with fail
  refine (fcons_any twoM [[0, 1, 2], [0, 1, 2]] _ _ _ _ HM.out (HS.out _ (Below.refl _ _))).mono ?_
  rintro e w2 ⟨x, er, t, rfl, hx, hf, hb2⟩
  obtain ⟨rfl, rfl⟩ := fix_is hf begf_check begf_a (by decide)
  have HX : Hid (∀ w' : World, Below w2.heap.size w2 w' → RArg w' x [[0, 1], [1, 2]]) := fun w' h => RArg.below h hx
  obtain ⟨ax, cx, rfl, _, _⟩ := hx
  have HB2 : Hid (Below w1.heap.size w1 w2) := hb2
  clear hb2 hf HM
  go_wp2_with fail
  refine (two_any _).mono ?_
  rintro e w3 ⟨vs, cs, rfl, hm, hb3⟩
  have HB23 : Hid (Below w2.heap.size w2 w3) := hb3
  have HB3 : Hid (Below w1.heap.size w1 w3) := HB2.out.trans (hb3.mono HB2.out.size)
  have HM : Hid (MArg w3 vs cs twoM) := hm
  clear hm hb3 HB2
  go_wp2_with fail
  refine (funits_any twoM [[0, 1, 2], [0, 1, 2]] begL _ _ _ _ _ HM.out (HS.out _ HB3.out) (HL.out _ HB3.out)).mono ?_
  rintro e w4 ⟨y, er, t, rfl, hy, hf, hb4⟩
  obtain ⟨rfl, rfl⟩ := fix_is hf begf_both begf_b (by decide)
  have HY : Hid (∀ w' : World, Below w4.heap.size w4 w' → RArg w' y [[0, 1, 2], [0, 1]]) := fun w' h => RArg.below h hy
  obtain ⟨ay, cy, rfl, _, _⟩ := hy
  have HB4 : Hid (Below w1.heap.size w1 w4) := HB3.out.trans (hb4.mono HB3.out.size)
  have HB24 : Hid (Below w2.heap.size w2 w4) := HB23.out.trans (hb4.mono HB23.out.size)
  clear hb4 hf HM HB3 HB23
  go_wp2_with fail
  refine (two_any _).mono ?_
  rintro e w5 ⟨vs, cs, rfl, hm, hb5⟩
  have HB45 : Hid (Below w4.heap.size w4 w5) := hb5
  have HB5 : Hid (Below w1.heap.size w1 w5) := HB4.out.trans (hb5.mono HB4.out.size)
  have HM : Hid (MArg w5 vs cs twoM) := hm
  clear hm hb5
  go_wp2_with fail
  refine (fboth_any twoM [[0, 1, 2], [0, 1, 2]] begL _ _ _ _ _ HM.out (HS.out _ HB5.out) (HL.out _ HB5.out)).mono ?_
  rintro e w6 ⟨z, er, t, rfl, hz, hf, hb6⟩
  obtain ⟨rfl, rfl⟩ := fix_is hf begf_both begf_c (by decide)
  have HZ : Hid (∀ w' : World, Below w6.heap.size w6 w' → RArg w' z [[0], [1]]) := fun w' h => RArg.below h hz
  obtain ⟨az, cz, rfl, _, _⟩ := hz
  have HB6 : Hid (Below w1.heap.size w1 w6) := HB5.out.trans (hb6.mono HB5.out.size)
  have HB46 : Hid (Below w4.heap.size w4 w6) := HB45.out.trans (hb6.mono HB45.out.size)
  have HB26 : Hid (Below w2.heap.size w2 w6) := HB24.out.trans (HB46.out.mono HB24.out.size)
  clear hb6 hf HM HB5 HB45
  go_wp2_with fail
  refine (samestore_any [[0, 1], [1, 2]] [[0, 1], [1, 2]] _ _ _ (HX.out _ ?_) (lit2 [0, 1] [1, 2] _ _ _ rfl rfl rfl (by decide) (by decide))).mono ?_
  · exact HB26.out.trans ((below3 _ _ _ _).mono HB26.out.size)
  rintro e w7 ⟨rfl, n7, h7⟩
  rw [show decide (([[0, 1], [1, 2]] : Sto) = [[0, 1], [1, 2]]) = true from by decide]
  have HB67 : Hid (Below w6.heap.size w6 w7) := (below3 _ _ _ _).trans ((draws_below h7).mono (by simp; omega))
  clear h7
  go_wp2_with fail
  refine (samestore_any [[0, 1, 2], [0, 1]] [[0, 1, 2], [0, 1]] _ _ _ (HY.out _ ?_) (lit2 [0, 1, 2] [0, 1] _ _ _ rfl rfl rfl (by decide) (by decide))).mono ?_
  · exact HB46.out.trans ((HB67.out.trans ((below3 _ _ _ _).mono HB67.out.size)).mono HB46.out.size)
  rintro e w8 ⟨rfl, n8, h8⟩
  rw [show decide (([[0, 1, 2], [0, 1]] : Sto) = [[0, 1, 2], [0, 1]]) = true from by decide]
  have HB68 : Hid (Below w6.heap.size w6 w8) := HB67.out.trans (((below3 _ _ _ _).trans ((draws_below h8).mono (by simp; omega))).mono HB67.out.size)
  clear h8
  go_wp2_with fail
  refine (samestore_any [[0], [1]] [[0], [1]] _ _ _ (HZ.out _ ?_) (lit2 [0] [1] _ _ _ rfl rfl rfl (by decide) (by decide))).mono ?_
  · exact HB68.out.trans ((below3 _ _ _ _).mono HB68.out.size)
  rintro e w9 ⟨rfl, n9, h9⟩
  rw [show decide (([[0], [1]] : Sto) = [[0], [1]]) = true from by decide]
  have hB9 : Below w.heap.size w w9 := HB1.out.trans ((HB6.out.trans ((HB68.out.trans (((below3 _ _ _ _).trans ((draws_below h9).mono (by simp; omega))).mono HB68.out.size)).mono HB6.out.size)).mono HB1.out.size)
  clear h9
  go_wp2
  go_ret
  exact ⟨rfl, hB9⟩

def okB (m : Mod) (vals : List Int) (c : Cla) : Bool := decide ((choldsA m c vals).2 = 0) && (choldsA m c vals).1
theorem okB_claB (m : Mod) (vals : List Int) (c : Cla) (h : okB m vals c = true) : claB c vals = true := by
  unfold okB at h
  rw [Bool.and_eq_true, decide_eq_true_eq] at h
  obtain ⟨h1, h2⟩ := h
  unfold choldsA at h1 h2
  by_cases h0 : ccheckA m c = 0
  · rw [if_pos h0] at h1 h2
    by_cases hl : vals.length = m.vars.length
    · rw [if_pos hl] at h2; exact h2
    · rw [if_neg hl] at h2; cases h2
  · rw [if_neg h0] at h2; cases h2

set_option maxHeartbeats 1600000 in
set_option maxRecDepth 100000 in
theorem allcla_any (m : Mod) (l : List Cla) (vals : List Int) (vs cs u v : Value) (w : World) (hm : MArg w vs cs m) (hu : LLArg w u l) (hv : IArg w v vals) :
    Calls Tryz.prog 18 #[modV vs cs m, u, v] w fun e w' => e = .returned (.bool (l.all (okB m vals))) ∧ Below w.heap.size w w' := by
  have HMA : Hid (∀ w' : World, Below w.heap.size w w' → MArg w' vs cs m) := fun w' h => MArg.below h hm
  have HVA : Hid (∀ w' : World, Below w.heap.size w w' → IArg w' v vals) := fun w' h => IArg.below h hv
  obtain ⟨⟨a1, c1, rfl, _, _⟩, ⟨a2, c2, rfl, _, _⟩⟩ := hm
  obtain ⟨a3, c3, rfl, hm3, hr3⟩ := hu
  obtain ⟨a4, c4, rfl, _, _⟩ := hv
  have HU : Hid (∀ (i : Nat) (t : Cla), l[i]? = some t → ∃ b off x, a3 = some ⟨b, off, none⟩ ∧ b < w.heap.size ∧ w.cell? ⟨b, off + i, none⟩ = some x ∧ LArg w x t) := hr3
  obtain ⟨R, hR⟩ : ∃ R, l.all (okB m vals) = R := ⟨_, rfl⟩
  rw [hR]
  have HR : Hid (l.all (okB m vals) = R) := hR
  unfold maxLen at hm3
  obtain ⟨hm31, hm3⟩ := hm3
  obtain ⟨W, hW⟩ : ∃ W : World, W = w.alloc (.cells #[.slice a1 m.vars.length c1, .slice a2 m.cons.length c2, .int .i64 m.goal, .int .i64 m.var] 25) := ⟨_, rfl⟩
  have HW : Hid (W = w.alloc (.cells #[.slice a1 m.vars.length c1, .slice a2 m.cons.length c2, .int .i64 m.goal, .int .i64 m.var] 25)) := hW
  have HBW : Hid (Below w.heap.size w W) := by rw [hW]; exact below_alloc _ _
  have hsW : w.heap.size < W.heap.size := by rw [hW]; simp
  have HC : Hid (∀ w' : World, Below W.heap.size W w' → w'.cell? ⟨w.heap.size, 0, none⟩ = some (.slice a1 m.vars.length c1) ∧ w'.cell? ⟨w.heap.size, 1, none⟩ = some (.slice a2 m.cons.length c2) ∧ w'.cell? ⟨w.heap.size, 2, none⟩ = some (.int .i64 m.goal) ∧ w'.cell? ⟨w.heap.size, 3, none⟩ = some (.int .i64 m.var)) := by
    intro w' h
    refine ⟨?_, ?_, ?_, ?_⟩
    all_goals (refine (h.cell hsW).trans ?_; rw [hW]; simp)
  clear hR hr3 hW
  unfold modV
  go_enter Tryz.func18, Tryz.ntmps18
  go_wp2_with fail
  rw [← HW.out]
  clear HW
  go_loopw [7] (fun i wr => ∃ k : Nat, k ≤ l.length ∧ i = .int .i64 k ∧ Hid ((l.take k).all (okB m vals) = true) ∧ Below W.heap.size W wr) (fun i _ => l.length - (intOf i).toNat)
  case atStart => exact ⟨0, by omega, rfl, rfl, Below.refl _ _⟩
  case round =>
    obtain ⟨k, hk, rfl, hall, hbw⟩ := hrel
    by_cases hlt : k < l.length
    · obtain ⟨t, hz⟩ : ∃ z, l[k]? = some z := ⟨l[k], by simp [hlt]⟩
      obtain ⟨b, off, x, ha, hb, q0, hx⟩ := HU.out k t hz
      have hB0 : Below w.heap.size w wr := HBW.out.trans (hbw.mono (by omega))
      have HX : Hid (∀ w' : World, Below w.heap.size w w' → LArg w' x t) := fun w' h => LArg.below h hx
      obtain ⟨a5, c5, rfl, _, _⟩ := hx
      have e5 := (hB0.cell (p := ⟨b, off + k, none⟩) hb).trans q0
      obtain ⟨e0, e1, e2, e3⟩ := HC.out _ hbw
      have l0 : w.heap.size < wr.heap.size := Nat.lt_of_lt_of_le hsW hbw.size
      have l5 : b < wr.heap.size := Nat.lt_of_lt_of_le hb hB0.size
      subst ha
      have HZ : Hid (l[k]? = some t) := hz
      have HB0 : Hid (Below w.heap.size w wr) := hB0
      have HBWR : Hid (Below W.heap.size W wr) := hbw
      obtain ⟨ok, hok⟩ : ∃ ok, (choldsA m t vals).1 = ok := ⟨_, rfl⟩
      obtain ⟨er, her⟩ : ∃ er, (choldsA m t vals).2 = er := ⟨_, rfl⟩
      have HH : Hid (choldsA m t vals = (ok, er)) := Prod.ext hok her
      have HOB : Hid (okB m vals t = (decide (er = 0) && ok)) := by show _ = _; unfold okB; rw [hok, her]
      have HCL : Hid (∀ Y : World, Below wr.heap.size wr Y → Calls Tryz.prog 40 #[.agg #[.slice a1 m.vars.length c1, .slice a2 m.cons.length c2, .int .i64 m.goal, .int .i64 m.var], .slice a5 t.length c5, .slice a4 vals.length c4] Y fun e w' => e = .returned (.tuple #[.bool ok, .int .i64 er]) ∧ Below Y.heap.size Y w') := by
        intro Y hY
        have hY0 : Below w.heap.size w Y := HB0.out.trans (hY.mono HB0.out.size)
        have h := cholds_any m t vals (.slice a1 m.vars.length c1) (.slice a2 m.cons.length c2) _ _ Y (HMA.out _ hY0) (HX.out _ hY0) (HVA.out _ hY0)
        rw [HH.out] at h
        exact h
      clear hz q0 hB0 hbw hok her hb
      go_wp2_with fail
      go_region_held3 (fun w' => Below wr.heap.size wr w' ∧ w'.cell? ⟨w.heap.size, 0, none⟩ = some (.slice a1 m.vars.length c1) ∧ w'.cell? ⟨w.heap.size, 1, none⟩ = some (.slice a2 m.cons.length c2) ∧ w'.cell? ⟨w.heap.size, 2, none⟩ = some (.int .i64 m.goal) ∧ w'.cell? ⟨w.heap.size, 3, none⟩ = some (.int .i64 m.var) ∧ w'.cell? ⟨b, off + k, none⟩ = some (.slice a5 t.length c5))
        ((refine (fun (hB : Below wr.heap.size wr _) => ⟨hB, (hB.cell (p := ⟨w.heap.size, 0, none⟩) l0).trans e0, (hB.cell (p := ⟨w.heap.size, 1, none⟩) l0).trans e1, (hB.cell (p := ⟨w.heap.size, 2, none⟩) l0).trans e2, (hB.cell (p := ⟨w.heap.size, 3, none⟩) l0).trans e3, (hB.cell (p := ⟨b, off + k, none⟩) l5).trans e5⟩ : Below wr.heap.size wr _ → _) ?_; first | exact (Below.refl _ _).drew | exact hBq))
        (first
          | (go_at_call 40; refine (HCL.out _ (show Below wr.heap.size wr _ ∧ _ ∧ _ ∧ _ ∧ _ ∧ _ by assumption).1).mono ?_; rintro e wq ⟨rfl, hbq⟩; have hBq := held_call (by assumption) hbq))
      have HBQ : Hid (Below W.heap.size W wq) := HBWR.out.trans (hBq.mono HBWR.out.size)
      have HBQ0 : Hid (Below w.heap.size w wq) := HBW.out.trans (HBQ.out.mono (by omega))
      by_cases he : er = 0
      · subst he
        cases ok
        · have HN : Hid (R = false) := by rw [← HR.out]; exact all_hit (okB m vals) l k t HZ.out (by rw [HOB.out]; rfl)
          go_wp2
          go_ret
          exact ⟨ret_bool HN.out.symm, HBQ0.out⟩
        · have HN : Hid ((l.take (k + 1)).all (okB m vals) = true) := all_next _ l k t HZ.out hall.out (by rw [HOB.out]; rfl)
          go_wp2
          go_roundw
          case rel => exact ⟨k + 1, by omega, by go_num, HN, HBQ.out⟩
          case measure => simp [intOf]; omega
      · have HN : Hid (R = false) := by rw [← HR.out]; exact all_hit (okB m vals) l k t HZ.out (by rw [HOB.out, decide_eq_false he]; rfl)
        have he2 : (er != 0) = true := by simpa using he
        clear he
        go_wp2
        go_ret
        exact ⟨ret_bool HN.out.symm, HBQ0.out⟩
    · have HN : Hid (R = true) := by rw [← HR.out]; exact all_end _ l k hlt hall.out
      have hBe : Below w.heap.size w wr := HBW.out.trans (hbw.mono (by omega))
      go_wp2
      go_ret
      exact ⟨ret_bool HN.out.symm, hBe⟩
end Go.Proofs.YtggkbhafbhhhhadGreat
/-
  Stores and clauses that came in, opened.
-/
namespace Go.Proofs.YtggkbhafbhhhhadGreat
open Go.ChangeShapes Go.WideShapes Go.ChangeAt Go.RowKit Go.Deep

theorem Tryz.underClause : Tryz.prog.underlying 57 = some (.slice 63) := by kernel_rfl
section
variable {H : Type} {enc : TypeId × Value → H} {w : World} {base : Nat} {spare : Nat → Bool} {held : Bool}
/-- A store that came in. -/
theorem open_store {fuel : Nat} {cs : List Value} {x : DataW H × List MemPlace} (h : DataW.trod enc Tryz.prog w base spare held fuel 27 cs = some x) :
    ∃ v l, cs = [v] ∧ RArg w v l := by
  obtain ⟨l, a, c, hcs, hm, hr⟩ := open_elems (α := Value × List Int) Tryz.underStore Tryz.cInts (by decide) (fun z => [z.1]) (fun z => IArg w z.1 z.2)
    (fun n cs' x' h' => by obtain ⟨v, r, hz, hi⟩ := open_ilist h'; exact ⟨(v, r), hz, hi⟩) h
  refine ⟨_, l.map (·.2), hcs, a, c, by simp, by simpa using hm, fun i r hr' => ?_⟩
  rw [List.getElem?_map] at hr'
  obtain ⟨⟨v, r2⟩, hz, rfl⟩ := Option.map_eq_some_iff.1 hr'
  obtain ⟨hg, b, off, ha, hb, hc⟩ := hr i _ hz
  have := hc 0 _ rfl
  exact ⟨b, off, v, ha, hb, by simpa using this, hg⟩
/-- A clause that came in. -/
theorem open_cla {fuel : Nat} {cs : List Value} {x : DataW H × List MemPlace} (h : DataW.trod enc Tryz.prog w base spare held fuel 57 cs = some x) :
    ∃ v l, cs = [v] ∧ LArg w v l := by
  have hinh : Inhabited MLit := ⟨⟨0, 0, 0⟩⟩
  obtain ⟨l, a, c, hcs, hm, hr⟩ := open_elems (α := MLit) Tryz.underClause Tryz.cLit (by decide) (fun t => [.int .i64 t.var, .int .i64 t.op, .int .i64 t.n]) (fun _ => True)
    (fun n cs' x' h' => by obtain ⟨t, ht⟩ := one_lit h'; exact ⟨t, ht, trivial⟩) h
  refine ⟨_, l, hcs, a, c, rfl, hm, fun i z hz => ?_⟩
  obtain ⟨_, b, off, ha, hb, hc⟩ := hr i z hz
  have e0 := hc 0 _ rfl
  have e1 := hc 1 _ rfl
  have e2 := hc 2 _ rfl
  rw [← Nat.add_assoc] at e0 e1 e2
  exact ⟨b, off, ha, hb, e0, e1, e2⟩
end
end Go.Proofs.YtggkbhafbhhhhadGreat
/-
  A list of clauses that came in, opened.
-/
namespace Go.Proofs.YtggkbhafbhhhhadGreat
open Go.ChangeShapes Go.WideShapes Go.ChangeAt Go.RowKit Go.Deep

theorem Tryz.underClauses : Tryz.prog.underlying 28 = some (.slice 57) := by kernel_rfl
theorem Tryz.cClause : Tryz.prog.cellsOf 57 = 1 := by kernel_rfl
section
variable {H : Type} {enc : TypeId × Value → H} {w : World} {base : Nat} {spare : Nat → Bool} {held : Bool}
theorem open_clas {fuel : Nat} {cs : List Value} {x : DataW H × List MemPlace} (h : DataW.trod enc Tryz.prog w base spare held fuel 28 cs = some x) :
    ∃ v l, cs = [v] ∧ LLArg w v l := by
  obtain ⟨l, a, c, hcs, hm, hr⟩ := open_elems (α := Value × Cla) Tryz.underClauses Tryz.cClause (by decide) (fun z => [z.1]) (fun z => LArg w z.1 z.2)
    (fun n cs' x' h' => by obtain ⟨v, r, hz, hi⟩ := open_cla h'; exact ⟨(v, r), hz, hi⟩) h
  refine ⟨_, l.map (·.2), hcs, a, c, by simp, by simpa using hm, fun i r hr' => ?_⟩
  rw [List.getElem?_map] at hr'
  obtain ⟨⟨v, r2⟩, hz, rfl⟩ := Option.map_eq_some_iff.1 hr'
  obtain ⟨hg, b, off, ha, hb, hc⟩ := hr i _ hz
  have := hc 0 _ rfl
  exact ⟨b, off, v, ha, hb, by simpa using this, hg⟩
end
end Go.Proofs.YtggkbhafbhhhhadGreat
