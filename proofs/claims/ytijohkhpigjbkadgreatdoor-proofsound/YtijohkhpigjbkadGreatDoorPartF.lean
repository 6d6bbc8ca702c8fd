/-
  PART 6 of what the proof leans on (FenH, FenC, FenT, FenD, FixL, FauA, FauB, FauC, PrfA, PrfB, PrfC, PrfD, PPa, PrfE).
-/
import Derived.Test.YtijohkhpigjbkadGreatDoorPartE
import Derived.Deep.OwnRows
import Derived.Deep.Onto
import Derived.Laws.EntriesVeiled
import Derived.Deep.RegionLaw
import Derived.Shelf.Spec.TrailingZeros
import Derived.Deep.CutBlock
import Derived.Deep.DeepCutAuto
/-
  WALK: package fence: Points.
-/
namespace Go.Proofs.YtijohkhpigjbkadGreatDoor
open Go.RowKit

theorem own_parts {w : World} {base : Nat} {v : Value} {l : List Nat} (h : w.ownsRow base 58 1 v l.length (u64s l)) (hl : ∀ z ∈ l, z < 2 ^ 36) : PArg w v l := by
  rcases h.2 with ⟨rfl, hn⟩ | ⟨g, cap, cur, rfl, hg, hh, hc1, hc2, _, _⟩
  · have : l = [] := List.eq_nil_of_length_eq_zero hn
    subst this
    exact ⟨none, 0, rfl, ⟨Nat.le_refl _, Nat.zero_le _⟩, fun i z hz => by simp at hz⟩
  · refine ⟨_, cap, rfl, ⟨hc1, hc2⟩, fun i z hz => ⟨hl z (List.mem_of_getElem? hz), g, 0, rfl, (Array.getElem?_eq_some_iff.1 hh).1, ?_⟩⟩
    have hi : i < l.length := (List.getElem?_eq_some_iff.1 hz).1
    rw [Nat.zero_add, h.cellAt i (by omega)]
    unfold u64s
    rw [List.getElem?_map, hz]; rfl
theorem scope_short (m : Mod) (hm : checkM m = 0) (j : Nat) (c : MCon) (hc : m.cons[j]? = some c) : (scopeC c).length ≤ 8 := by
  obtain ⟨hn4, hl4, _, _⟩ := many_not c (con_facts _ _ (con_ok m hm j c hc)).2.1
  have h1 := compI_len (sortI (scopeL c))
  rw [sortI_len] at h1
  show (compI (sortI (scopeL c))).length ≤ 8
  have h2 : (scopeL c).length = c.vars.length + c.lits.length := by simp [scopeL]
  omega
theorem Tryz.infoIntF : (Tryz.prog.info? 3).map (fun i => (i.zero, i.size, i.bytes)) = some (some (.int .i64 0), 1, 8) := by kernel_rfl
theorem Tryz.underIntsF : Tryz.prog.underlying 44 = some (.slice 3) := by kernel_rfl
theorem zeros_own (w : World) (n base : Nat) (hn : n ≤ 6) (hb : base ≤ w.heap.size) : (w.alloc (.cells (madeCells #[.int .i64 0] n) 3)).ownsRow base 3 1 (.slice (some ⟨w.heap.size, 0, none⟩) n n) n ((zerosOf n).map (Value.int .i64)) := by
  refine ⟨by simp [zerosOf], Or.inr ⟨w.heap.size, n, _, rfl, hb, heap_alloc_new w _, Nat.le_refl _, by unfold maxLen; omega, ?_, ?_⟩⟩
  · have h := congrArg List.length (toList_madeCells_one (.int .i64 0) n)
    simp at h
    simpa using h
  · rw [toList_madeCells_one]
    simp [zerosOf]

def ptsObjs (N bs bm bc n : Nat) (W : World) : World := (((W.alloc (.cells (madeCells #[.int .i64 0] n) 3)).alloc (.cells #[.slice (some ⟨N, 0, none⟩) n n] 44)).alloc (.cells #[.slice none 0 0] 55)).alloc (.cells #[.func (.func 60) #[] (ptsCaps N bs bm bc)] 97)
theorem pts_new {W : World} {N bs bm bc con n : Nat} {m : Mod} {vs cs sv : Value} {scope : List Int} (hN : W.heap.size = N) (hn : n ≤ 6)
    (hW : MArg W vs cs m ∧ IArg W sv scope ∧ W.cell? ⟨bs, 0, none⟩ = some sv ∧ W.cell? ⟨bm, 0, none⟩ = some vs ∧ W.cell? ⟨bm, 1, none⟩ = some cs ∧ W.cell? ⟨bc, 0, none⟩ = some (.int .i64 con)) :
    PtsS N bs bm bc m con vs cs sv scope (zerosOf n) [] (ptsObjs N bs bm bc n W) ∧ Below N W (ptsObjs N bs bm bc n W) := by
  subst hN
  have hzl : (zerosOf n).length = n := by simp [zerosOf]
  have r1 := zeros_own W n W.heap.size hn (Nat.le_refl _)
  have r3 := World.ownsRow_lit (base := W.heap.size) (e := 55) (size := 1) ((W.alloc (.cells (madeCells #[.int .i64 0] n) 3)).alloc (.cells #[.slice (some ⟨W.heap.size, 0, none⟩) n n] 44)) #[.slice none 0 0] 1 (by simp; omega) (by unfold maxLen; omega) rfl
  have e3 : ((W.alloc (.cells (madeCells #[.int .i64 0] n) 3)).alloc (.cells #[.slice (some ⟨W.heap.size, 0, none⟩) n n] 44)).heap.size = W.heap.size + 2 := by simp
  rw [e3] at r3
  have hsz : (ptsObjs W.heap.size bs bm bc n W).heap.size = W.heap.size + 4 := by unfold ptsObjs; simp
  have hb : Below W.heap.size W (ptsObjs W.heap.size bs bm bc n W) := (((below_alloc _ _).alloc (by simp) _).alloc (by simp; omega) _).alloc (by simp; omega) _
  have q1 : (ptsObjs W.heap.size bs bm bc n W).ownsRow W.heap.size 3 1 (.slice (some ⟨W.heap.size, 0, none⟩) n n) n ((zerosOf n).map (Value.int .i64)) := ((r1.alloc _).alloc _).alloc _
  refine ⟨⟨by omega, ⟨W, Nat.le_refl _, hW, hb⟩, by rw [hzl]; exact q1, ?_, ?_, .slice none 0 0, r3.alloc _, World.ownsRow_nil _ _ _ _⟩, hb⟩
  · rw [hzl]
    unfold ptsObjs
    rw [World.cell?_alloc_past _ _ _ (by simp), World.cell?_alloc_past _ _ _ (by simp)]
    exact World.cell?_alloc_at _ _ _ 0 (by simp)
  · unfold ptsObjs
    exact World.cell?_alloc_at _ _ _ 0 (by simp)

set_option maxHeartbeats 1600000 in
set_option maxRecDepth 100000 in
theorem points_own (m : Mod) (con : Nat) (c : MCon) (vs cs : Value) (w : World) (hm : checkM m = 0) (hc : m.cons[con]? = some c) (hma : MArg w vs cs m) :
    Calls Tryz.prog 25 #[modV vs cs m, .int .i64 con] w fun e w' => ∃ x, e = .returned x ∧ w'.ownsRow w.heap.size 58 1 x (pointsP m.vars c).length (u64s (pointsP m.vars c)) ∧ Below w.heap.size w w' := by
  have HMA : Hid (∀ w', Below w.heap.size w w' → MArg w' vs cs m) := fun w' h => MArg.below h hma
  have HM : Hid (checkM m = 0) := hm
  have HC : Hid (m.cons[con]? = some c) := hc
  have H6 : m.vars.length ≤ 6 := (checkM_vars m hm).2.1
  have hcon : con < m.cons.length := (List.getElem?_eq_some_iff.1 hc).1
  have HSC : Hid (scopeA m (con : Int) = (scopeC c, 0)) := by
    show _ = _
    have h1 : conCheck m (con : Int) = 0 := by unfold conCheck; rw [if_pos hm, if_neg (by omega)]
    unfold scopeA
    rw [if_pos h1, Int.toNat_natCast, List.getD_eq_getElem?_getD, hc]; rfl
  have hmk := run_make_row' (P := Tryz.prog) 44 3 (.int .i64 0) 8 Tryz.underIntsF Tryz.infoIntF rfl .i64 .i64 m.vars.length (by omega) (by omega)
  obtain ⟨⟨a1, c1, rfl, hm1, _⟩, ⟨a2, c2, rfl, _, _⟩⟩ := hma
  unfold maxLen at hm1
  obtain ⟨hm11, hm1⟩ := hm1
  unfold modV
  clear hm hc
  go_enter Tryz.func25, Tryz.ntmps25
  go_wp2_with fail
  refine (mscope_any m (con : Int) _ _ _ (HMA.out _ ((below_alloc _ _).alloc (by simp) _))).mono ?_
  rw [HSC.out]
  rintro e w1 ⟨x, rfl, hx, hb1⟩
  have hbw : Below w.heap.size w w1 := ((below_alloc _ _).alloc (by simp) _).trans (hb1.mono (by simp; omega))
  have hq0 : w1.cell? ⟨w.heap.size, 0, none⟩ = some (.slice a1 m.vars.length c1) := (hb1.cell (by simp; omega)).trans ((World.cell?_alloc_past _ _ _ (by simp)).trans (World.cell?_alloc_at _ _ _ 0 (by simp)))
  have hq1 : w1.cell? ⟨w.heap.size, 1, none⟩ = some (.slice a2 m.cons.length c2) := (hb1.cell (by simp; omega)).trans ((World.cell?_alloc_past _ _ _ (by simp)).trans (World.cell?_alloc_at _ _ _ 1 (by simp)))
  have hq2 : w1.cell? ⟨w.heap.size + 1, 0, none⟩ = some (.int .i64 con) := (hb1.cell (by simp)).trans (World.cell?_alloc_at _ _ _ 0 (by simp))
  have hl0 : w.heap.size + 1 < w1.heap.size := by have := hb1.size; simp at this; omega
  have hl1 : w.heap.size < w1.heap.size := by omega
  have HX : Hid (IArg w1 x (scopeC c)) := hx
  obtain ⟨ax, cx, rfl, _, _⟩ := hx
  have HBW : Hid (Below w.heap.size w w1) := hbw
  have HSCI : Hid (∀ v ∈ scopeC c, 0 ≤ v ∧ v < (m.vars.length : Int)) := (scope_in m HM.out con c HC.out).1
  have HS8 : Hid ((scopeC c).length ≤ 8) := scope_short m HM.out con c HC.out
  have HPN : Hid (_) := pts_new (W := w1.alloc (.cells #[.slice ax (scopeC c).length cx] 44)) (N := w1.heap.size + 1) (bs := w1.heap.size) (bm := w.heap.size) (bc := w.heap.size + 1) (con := con) (n := m.vars.length) (m := m) (scope := scopeC c) (by simp) H6
    ⟨HMA.out _ (HBW.out.alloc HBW.out.size _), IArg.below (below_alloc _ _) HX.out, World.cell?_alloc_at _ _ _ 0 (by simp), (World.cell?_alloc_past _ _ _ hl1).trans hq0, (World.cell?_alloc_past _ _ _ hl1).trans hq1, (World.cell?_alloc_past _ _ _ hl0).trans hq2⟩
  clear hb1 hbw
  go_wp2_with fail
  have HB5 : Hid (Below w.heap.size w (ptsObjs (w1.heap.size + 1) w1.heap.size w.heap.size (w.heap.size + 1) m.vars.length (w1.alloc (.cells #[.slice ax (scopeC c).length cx] 44)))) := (HBW.out.alloc HBW.out.size _).trans (HPN.out.2.mono (by have := HBW.out.size; omega))
  have HZL : Hid ((zerosOf m.vars.length).length = m.vars.length) := by show _ = _; simp [zerosOf]
  refine (pts_any (w1.heap.size + 1) w1.heap.size w.heap.size (w.heap.size + 1) m con c _ _ _ (scopeC c) HM.out HC.out HSCI.out HS8.out (scopeC c) 0 (zerosOf m.vars.length) 0 [] (ptsObjs (w1.heap.size + 1) w1.heap.size w.heap.size (w.heap.size + 1) m.vars.length (w1.alloc (.cells #[.slice ax (scopeC c).length cx] 44))) rfl (Nat.zero_le _) HZL.out (fun x hx => by have := List.eq_of_mem_replicate hx; omega) (by omega) ?_ HPN.out.1).mono ?_
  · have h2 : 6 ^ (scopeC c).length ≤ 6 ^ 8 := Nat.pow_le_pow_right (by omega) HS8.out
    simp only [List.length_nil]
    omega
  rintro e w2 ⟨rfl, vals', hT2, _, _, _, hb2⟩
  have HB6 : Hid (Below w.heap.size w w2) := HB5.out.trans (hb2.mono (by have := HBW.out.size; omega))
  obtain ⟨hsz, _, _, _, _, ov, ho, hr⟩ := hT2
  have HPA : Hid (w2.ownsRow w.heap.size 58 1 ov (pointsP m.vars c).length (u64s (pointsP m.vars c))) := World.ownsRow.mono hr (by have := HBW.out.size; omega)
  obtain ⟨ao, co, rfl⟩ := own_form hr
  have hco : w2.cell? ⟨w1.heap.size + 1 + 1 + 1, 0, none⟩ = some (.slice ao ([] ++ pointsN m.vars c (scopeC c) (zerosOf m.vars.length) 0).length co) := ho.cellAt 0 (by omega)
  have hlo : w1.heap.size + 1 + 1 + 1 < w2.heap.size := by omega
  clear hr ho hb2 HPN
  go_wp2
  go_ret
  exact ⟨_, rfl, HPA.out, HB6.out⟩
theorem pointsP_lt (m : Mod) (hm : checkM m = 0) (j : Nat) (c : MCon) (hc : m.cons[j]? = some c) : ∀ z ∈ pointsP m.vars c, z < 2 ^ 36 := points_lt m.vars (vars_all m hm) c _ _ _ (scope_in m hm j c hc).1 (by omega)
theorem points_any (m : Mod) (con : Nat) (c : MCon) (vs cs : Value) (w : World) (hm : checkM m = 0) (hc : m.cons[con]? = some c) (hma : MArg w vs cs m) :
    Calls Tryz.prog 25 #[modV vs cs m, .int .i64 con] w fun e w' => ∃ x, e = .returned x ∧ PArg w' x (pointsP m.vars c) ∧ Below w.heap.size w w' :=
  (points_own m con c vs cs w hm hc hma).mono fun _ _ ⟨x, h1, h2, h3⟩ => ⟨x, h1, own_parts h2 (pointsP_lt m hm con c hc), h3⟩
end Go.Proofs.YtijohkhpigjbkadGreatDoor
/-
  WALKS: package fence: Says.
-/
namespace Go.Proofs.YtijohkhpigjbkadGreatDoor
open Go.RowKit

theorem fen_call {w2 Y w3 : World} {A : Prop} (h : Below w2.heap.size w2 Y ∧ A) (hb : Below Y.heap.size Y w3) : Below w2.heap.size w2 w3 := h.1.trans (hb.mono h.1.size)

set_option maxHeartbeats 1600000 in
set_option maxRecDepth 100000 in
theorem says_any (vs : List MVar) (hva : VarsAll vs) (pts : List Nat) (h : Nat) (hh : h < 2 ^ 36) (sv pv : Value) (w : World) (hv : VArg w sv vs) (hp : PArg w pv pts) :
    Calls Tryz.prog 24 #[sv, pv, .int .u64 h] w fun e w' => e = .returned (.bool (saysP vs pts h)) ∧ Below w.heap.size w w' := by
  have HV : Hid (∀ w', Below w.heap.size w w' → VArg w' sv vs) := fun w' h => VArg.below h hv
  have HP : Hid (∀ w', Below w.heap.size w w' → PArg w' pv pts) := fun w' h => PArg.below h hp
  have HVO : Hid (VarsAll vs) := hva
  have HH : Hid (h < 2 ^ 36) := hh
  have H6 : Hid (vs.length ≤ 6) := hva.1.1
  have HW36 : Hid (wholeP vs < 2 ^ 36) := of_lt vs hva.1 _
  obtain ⟨q, hq⟩ : ∃ q, wholeP vs = q := ⟨_, rfl⟩
  obtain ⟨r, hr⟩ : ∃ r, lessN (wholeP vs) h = r := ⟨_, rfl⟩
  have HR36 : Hid (r < 2 ^ 36) := by rw [← hr]; exact less_lt 36 _ _ HW36.out
  have hbits := bits_andNot_u64 (wholeP vs) h (by have := HW36.out; omega) (by omega)
  rw [hr, hq] at hbits
  have HQ : Hid (wholeP vs = q) := hq
  have HS : Hid (saysP vs pts h = (lackP vs.length r || !pts.any (stayP h))) := by show _ = _; unfold saysP; rw [hr]
  rw [HS.out]
  have HWH : Hid (∀ w', Below w.heap.size w w' → Calls Tryz.prog 58 #[sv] w' fun e w'' => e = .returned (.int .u64 (q : Int)) ∧ Below w'.heap.size w' w'') := fun w' hb => by
    rw [← HQ.out]; exact whole_any vs HVO.out sv w' (HV.out w' hb)
  have HLA : Hid (∀ w', Below w.heap.size w w' → Calls Tryz.prog 57 #[sv, .int .u64 r] w' fun e w'' => e = .returned (.bool (lackP vs.length r)) ∧ Below w'.heap.size w' w'') := fun w' hb =>
    (lacking_any vs H6.out r HR36.out sv w' (HV.out w' hb)).mono fun e w'' ⟨h1, h2⟩ => ⟨h1, by rw [h2]; exact Below.refl _ _⟩
  have HCO : Hid (∀ w', Below w.heap.size w w' → ∀ b1, w'.cell? ⟨b1, 0, none⟩ = some (.int .u64 h) → Calls Tryz.prog 59 #[pv, .func (.func 56) #[] #[.pointer (some ⟨b1, 0, none⟩)]] w' fun e w'' => e = .returned (.bool (pts.any (stayP h))) ∧ Below w'.heap.size w' w'') := fun w' hb b1 hc =>
    (containsf_parts h HH.out b1 pts pv w' (HP.out w' hb) hc).mono fun e w'' ⟨h1, h2⟩ => ⟨h1, by rw [h2]; exact Below.refl _ _⟩
  obtain ⟨a, c, rfl, _, _⟩ := hv
  obtain ⟨a2, c2, rfl, _, _⟩ := hp
  clear hva hh hq hr
  obtain ⟨L, hL⟩ : ∃ L, lackP vs.length r = L := ⟨_, rfl⟩
  obtain ⟨S, hS⟩ : ∃ S, pts.any (stayP h) = S := ⟨_, rfl⟩
  rw [hL] at HLA ⊢
  rw [hS] at HCO ⊢
  clear hL hS HS
  go_enter Tryz.func24, Tryz.ntmps24
  go_wp2_with fail
  have HB0 : Hid (Below w.heap.size w (w.alloc (.cells #[.int .u64 h] 58))) := below_alloc _ _
  have k0 : (w.alloc (.cells #[.int .u64 h] 58)).cell? ⟨w.heap.size, 0, none⟩ = some (.int .u64 h) := World.cell?_alloc_at _ _ _ 0 (by simp)
  have n0 : w.heap.size < (w.alloc (.cells #[.int .u64 h] 58)).heap.size := by simp
  obtain ⟨W, hW⟩ : ∃ W, w.alloc (.cells #[.int .u64 h] 58) = W := ⟨_, rfl⟩
  rw [hW] at HB0 k0 n0 ⊢
  clear hW
  have HT : Hid (∀ Y, Below W.heap.size W Y → Below w.heap.size w Y) := fun Y hY => HB0.out.trans (hY.mono HB0.out.size)
  cases L
  · go_region_held3 (fun w' => Below W.heap.size W w' ∧ w'.cell? ⟨w.heap.size, 0, none⟩ = some (.int .u64 h))
      ((refine (fun (hB : Below W.heap.size W _) => ⟨hB, (hB.cell (p := ⟨w.heap.size, 0, none⟩) n0).trans k0⟩ : Below W.heap.size W _ → _) ?_; first | exact (Below.refl _ _).drew | exact fen_call (by assumption) hbq))
      (first
        | (go_at_call 58; refine (HWH.out _ (HT.out _ (show Below W.heap.size W _ ∧ _ by assumption).1)).mono ?_; rintro e w3 ⟨rfl, hbq⟩; have hB3 := fen_call (by assumption) hbq)
        | (go_at_call 57; refine (HLA.out _ (HT.out _ (show Below W.heap.size W _ ∧ _ by assumption).1)).mono ?_; rintro e w3 ⟨rfl, hbq⟩; have hB3 := fen_call (by assumption) hbq)
        | (go_at_call 59; refine (HCO.out _ (HT.out _ (show Below W.heap.size W _ ∧ _ by assumption).1) _ (show Below W.heap.size W _ ∧ _ by assumption).2).mono ?_; rintro e w3 ⟨rfl, hbq⟩; have hB3 := fen_call (by assumption) hbq))
    have HB3 : Hid (Below w.heap.size w w3) := HT.out _ hB3
    go_wp2
    go_ret
    exact ⟨ret_bool (by simp), HB3.out⟩
  · have HS : Hid (∀ Y, Below W.heap.size W Y → Below W.heap.size W Y ∧ Y.cell? ⟨w.heap.size, 0, none⟩ = some (.int .u64 h)) := fun Y hY => ⟨hY, (hY.cell (p := ⟨w.heap.size, 0, none⟩) n0).trans k0⟩
    have hHeld := HS.out W.drew (Below.refl _ _).drew
    refine wp_region_held_drew (S := fun Y => Below W.heap.size W Y ∧ Y.cell? ⟨w.heap.size, 0, none⟩ = some (.int .u64 h)) (by kernel_rfl) hHeld (fun _ => ?_)
    refine wpAnyH_take (i := 0) (v := ?v0) rfl (by kernel_rfl) (by kernel_rfl) (by kernel_rfl) (fun _ _ _ h => h) (Or.inl ⟨by rfl, ?y0⟩) hHeld ?r0
    case y0 => intro wq hSw; obtain ⟨q0, q1⟩ := hSw; go_simp; with_reducible rfl
    refine wpAnyH_take (i := 1) (v := ?v1) rfl (by kernel_rfl) (by kernel_rfl) (by kernel_rfl) (fun _ _ _ h => h) (Or.inl ⟨by rfl, ?y1⟩) hHeld ?r1
    case y1 => intro wq hSw; obtain ⟨q0, q1⟩ := hSw; go_simp; with_reducible rfl
    refine wpAnyH_take (i := 3) (v := ?v3) rfl (by kernel_rfl) (by kernel_rfl) (by kernel_rfl) (fun _ _ _ h => h) (Or.inl ⟨by rfl, ?y3⟩) hHeld ?r3
    case y3 => intro wq hSw; obtain ⟨q0, q1⟩ := hSw; go_simp; with_reducible rfl
    refine wpAnyH_ready (rs := [2]) (by kernel_rfl) (by simp) ?_
    refine AllReadyH.cons rfl (fun K hK => ?_) AllReadyH.nil
    go_simp
    refine (HWH.out _ (HT.out _ hHeld.1)).mono ?_
    rintro e w2 ⟨rfl, hb2⟩
    have hB2 : Below W.heap.size W w2 := hHeld.1.trans hb2
    dsimp only
    have hHeld2 := HS.out w2 hB2
    refine hK.out _ _ hHeld2 (fun _ => ?_)
    clear hK
    refine wpAnyH_take (i := 4) (v := ?v4) rfl (by kernel_rfl) (by kernel_rfl) (by kernel_rfl) (fun _ _ _ h => h) (Or.inl ⟨by rfl, ?y4⟩) hHeld2 ?r4
    case y4 => intro wq hSw; obtain ⟨q0, q1⟩ := hSw; go_simp; with_reducible rfl
    refine wpAnyH_ready (rs := [5]) (by kernel_rfl) (by simp) ?_
    refine AllReadyH.cons rfl (fun K hK => ?_) AllReadyH.nil
    go_simp
    refine (HLA.out _ (HT.out _ hHeld2.1)).mono ?_
    rintro e w3 ⟨rfl, hb3⟩
    have hB3 : Below W.heap.size W w3 := hB2.trans (hb3.mono hB2.size)
    dsimp only
    have hHeld3 := HS.out w3 hB3
    refine hK.out _ _ hHeld3 (fun _ => ?_)
    clear hK
    refine wpAnyH_take (i := 6) (v := ?v6) rfl (by kernel_rfl) (by kernel_rfl) (by kernel_rfl) (fun _ _ _ h => h) (Or.inl ⟨by rfl, ?y6⟩) hHeld3 ?r6
    case y6 => intro wq hSw; obtain ⟨q0, q1⟩ := hSw; go_simp; with_reducible rfl
    refine wpAnyH_take (i := 7) rfl (by kernel_rfl) (by kernel_rfl) (by kernel_rfl) (fun _ _ _ h => h) (Or.inr ⟨by rfl, rfl⟩) hHeld3 ?_
    refine wpAnyH_take (i := 8) rfl (by kernel_rfl) (by kernel_rfl) (by kernel_rfl) (fun _ _ _ h => h) (Or.inr ⟨by rfl, rfl⟩) hHeld3 ?_
    refine wpAnyH_take (i := 9) rfl (by kernel_rfl) (by kernel_rfl) (by kernel_rfl) (fun _ _ _ h => h) (Or.inr ⟨by rfl, rfl⟩) hHeld3 ?_
    refine wpAnyH_take (i := 10) rfl (by kernel_rfl) (by kernel_rfl) (by kernel_rfl) (fun _ _ _ h => h) (Or.inr ⟨by rfl, rfl⟩) hHeld3 ?_
    refine wpAnyH_take (i := 11) (v := ?v11) rfl (by kernel_rfl) (by kernel_rfl) (by kernel_rfl) (fun _ _ _ h => h) (Or.inl ⟨by rfl, ?y11⟩) hHeld3 ?r11
    case y11 => intro wq hSw; obtain ⟨q0, q1⟩ := hSw; go_simp; with_reducible rfl
    refine wpAnyH_take (i := 12) (v := ?v12) rfl (by kernel_rfl) (by kernel_rfl) (by kernel_rfl) (fun _ _ _ h => h) (Or.inl ⟨by rfl, ?y12⟩) hHeld3 ?r12
    case y12 => intro wq hSw; obtain ⟨q0, q1⟩ := hSw; go_simp; with_reducible rfl
    refine wpAnyH_done (by kernel_rfl) ?_ _
    have HB3 : Hid (Below w.heap.size w w3) := HT.out _ hB3
    go_wp2
    go_ret
    exact ⟨ret_bool (by simp), HB3.out⟩
end Go.Proofs.YtijohkhpigjbkadGreatDoor
/-
  WALKS: math/bits.TrailingZeros64 (the library's look-up); package fence: the field of the first variable that has values.
-/
namespace Go.Proofs.YtijohkhpigjbkadGreatDoor
open Go.RowKit

/-- The library's table lies in its variable. -/
def TabT (w : World) : Prop := TabAt 0 Lib.deBruijn64tab w
theorem TabT.below {w w' : World} (h : TabT w) (hb : Below w.heap.size w w') : TabT w' := fun j hj => by
  have := h j hj
  exact (hb.cell (World.block_lt_of_cell? w _ this)).trans this

set_option maxHeartbeats 1000000 in
theorem tz64_some (x k idx : Nat) (w : World) (hx0 : ((x : Int) == 0) = false)
    (key : IntKind.u64.wrap (bits BinOp.and IntKind.u64 (x : Int) (IntKind.u64.wrap (-(x : Int))) * 285870213051353865) / 288230376151711744 = (idx : Int))
    (hi : idx < 64) (hk : k < 64) (hcell : w.cell? ⟨0, idx, none⟩ = some (.int .u8 k)) :
    Calls Tryz.prog 145 #[.int .u64 x] w fun e w' => e = .returned (.int .i64 k) ∧ w' = w := by
  go_enter Tryz.func145, Tryz.ntmps145
  go_wp2_with (simp only [key])
  go_ret
  exact ⟨rfl, rfl⟩
theorem tz64_none (w : World) : Calls Tryz.prog 145 #[.int .u64 0] w fun e w' => e = .returned (.int .i64 64) ∧ w' = w := by
  go_enter Tryz.func145, Tryz.ntmps145
  go_wp2
  go_ret
  exact ⟨rfl, rfl⟩
theorem tz64_any (x : Nat) (hx : x < 18446744073709551616) (w : World) (hT : TabT w) :
    Calls Tryz.prog 145 #[.int .u64 x] w fun e w' => e = .returned (.int .i64 (Lib.ctz 64 x)) ∧ w' = w := by
  by_cases hx0 : x = 0
  · subst hx0
    exact tz64_none w
  · obtain ⟨hlow, hk⟩ := Lib.lowest_bit 64 x hx0 hx
    obtain ⟨hi, htab⟩ := Lib.deBruijn64_at _ hk
    have hcell := hT _ hi
    rw [htab] at hcell
    exact tz64_some x _ _ w (by simp; omega) (tz64_key x _ hx hx0 hlow) hi hk hcell

theorem shl_63 (k : Nat) (hk : k < 8) : IntKind.u64.wrap (63 * 2 ^ (k * 6)) = ((63 * 2 ^ (6 * k) : Nat) : Int) := by
  rw [IntKind.wrap_u64, Nat.mul_comm k 6]
  have : (2 : Nat) ^ (6 * k) ≤ 2 ^ 42 := Nat.pow_le_pow_right (by omega) (by omega)
  have e : (63 : Int) * ((2 : Int) ^ (6 * k)) = ((63 * 2 ^ (6 * k) : Nat) : Int) := by simp
  rw [e]
  exact Int.emod_eq_of_lt (by omega) (by omega)
set_option maxHeartbeats 400000 in
theorem field_any (p : Nat) (h0 : p ≠ 0) (hp : p < 2 ^ 36) (w : World) (hT : TabT w) :
    Calls Tryz.prog 113 #[.int .u64 p] w fun e w' => e = .returned (.int .u64 ((fieldP p : Nat) : Int)) ∧ w' = w := by
  have HT : Hid (TabT w) := hT
  have hc := (bitsL_step p h0 hp).2
  obtain ⟨t, ht⟩ : ∃ t, Lib.ctz 64 p = t := ⟨_, rfl⟩
  have HC : Hid (Lib.ctz 64 p = t) := ht
  rw [ht] at hc
  have HF : Hid (fieldP p = 63 * 2 ^ (6 * (t / 6))) := by show _ = _; unfold fieldP; rw [ht]
  have hs := shl_63 (t / 6) (by omega)
  rw [HF.out]
  obtain ⟨q, hq⟩ : ∃ q, 63 * 2 ^ (6 * (t / 6)) = q := ⟨_, rfl⟩
  rw [hq] at hs ⊢
  have HP : Hid (p < 2 ^ 36) := hp
  clear hT ht hq hp h0
  go_enter Tryz.func113, Tryz.ntmps113
  go_wp2_with fail
  refine (tz64_any p (by have := HP.out; omega) _ HT.out).mono ?_
  rintro e w ⟨rfl, rfl⟩
  rw [HC.out]
  go_wp2
  go_ret
  exact ⟨ret_int hs, rfl⟩
end Go.Proofs.YtijohkhpigjbkadGreatDoor
/-
  WALK: package fence: Units, Fails.
-/
namespace Go.Proofs.YtijohkhpigjbkadGreatDoor
open Go.RowKit

theorem round_cons (cs : List Nat) (k c left : Nat) (h : cs[k]? = some c) : roundP (cs.drop k) left = if left &&& c = 0 then none
    else if lessN (left &&& c) (fieldP (left &&& c)) = 0 then roundP (cs.drop (k + 1)) (lessN left (lessN (fieldP (left &&& c)) (left &&& c))) else roundP (cs.drop (k + 1)) left := by
  have hk : k < cs.length := (List.getElem?_eq_some_iff.1 h).1
  have hc : cs[k] = c := by rw [List.getElem?_eq_getElem hk] at h; exact Option.some.inj h
  rw [List.drop_eq_getElem_cons hk, hc]
  rfl
theorem field_lt (p : Nat) (h0 : p ≠ 0) (h : p < 2 ^ 36) : fieldP p < 2 ^ 36 := by
  have h1 := (bitsL_step p h0 h).2
  unfold fieldP
  have h2 : 2 ^ (6 * (Lib.ctz 64 p / 6)) ≤ 2 ^ 30 := Nat.pow_le_pow_right (by omega) (by omega)
  omega
theorem and_lt36 {a b : Nat} (ha : a < 2 ^ 36) : a &&& b < 2 ^ 36 := Nat.lt_of_le_of_lt Nat.and_le_left ha

theorem ret_u64 {a b : Nat} (h : a = b) : Ending.returned (.int .u64 (a : Int)) = Ending.returned (.int .u64 (b : Int)) := by rw [h]

set_option maxHeartbeats 1600000 in
set_option maxRecDepth 100000 in
theorem units_any (vs : List MVar) (h6 : vs.length ≤ 6) (hn1 : 1 ≤ vs.length) (cs : List Nat) (r : Nat) (hr36 : r < 2 ^ 36) (sv pv : Value) (w : World) (hv : VArg w sv vs) (hp : PArg w pv cs) (hT : TabT w) :
    Calls Tryz.prog 68 #[sv, pv, .int .u64 r] w fun e w' => e = .returned (.int .u64 ((unitsP vs cs r : Nat) : Int)) ∧ w' = w := by
  have HV : Hid (VArg w sv vs) := hv
  have HT : Hid (TabT w) := hT
  have H6 : Hid (vs.length ≤ 6) := h6
  have HR36 : Hid (r < 2 ^ 36) := hr36
  obtain ⟨R, hR⟩ : ∃ R, unitsP vs cs r = R := ⟨_, rfl⟩
  have HS : Hid (R = if lackP vs.length r then 0 else unitsN cs (r + 1) r) := by show _ = _; rw [← hR]; rfl
  rw [hR]
  have HR0 : Hid (lackP vs.length r = false → r ≠ 0) := fun h0 h1 => by
    rw [lack_hit vs.length r 0 (by omega) (by rw [h1]; rfl)] at h0; cases h0
  obtain ⟨a, c, rfl, _, _⟩ := hv
  obtain ⟨a2, c2, rfl, hm, hrp⟩ := hp
  have HP : Hid (∀ (i z : Nat), cs[i]? = some z → z < 2 ^ 36 ∧ ∃ b off, a2 = some ⟨b, off, none⟩ ∧ b < w.heap.size ∧ w.cell? ⟨b, off + i, none⟩ = some (.int .u64 z)) := hrp
  unfold maxLen at hm
  obtain ⟨hm1, hm⟩ := hm
  clear hT hR hrp hn1 h6 hr36
  go_enter Tryz.func68, Tryz.ntmps68
  go_wp2_with fail
  refine (lacking_any vs H6.out r HR36.out _ _ HV.out).mono ?_
  rintro e w ⟨rfl, rfl⟩
  obtain ⟨L, hL⟩ : ∃ L, lackP vs.length r = L := ⟨_, rfl⟩
  rw [hL] at HS HR0 ⊢
  clear hL
  cases L
  · have HS2 : Hid (R = unitsN cs (r + 1) r) := HS.out
    have HN0 : Hid (r ≠ 0) := HR0.out rfl
    clear HS HR0
    go_wp2_with fail
    go_loopw [7, 8] (fun l b wr => ∃ bb ll : Nat, l = .int .u64 (ll : Int) ∧ b = .int .u64 (bb : Int) ∧ Hid (ll < 2 ^ 36) ∧ Hid (if bb = ll then R = ll else R = unitsN cs (ll + 1) ll) ∧ wr = w) (fun l b _ => if intOf b = intOf l then 0 else (intOf l).toNat + 1)
    case atStart => exact ⟨0, r, rfl, rfl, HR36, by show (if _ then _ else _); rw [if_neg (fun h => HN0.out h.symm)]; exact HS2.out, rfl⟩
    case round =>
      obtain ⟨bb, ll, rfl, rfl, hl36, hst, rfl⟩ := hrel
      by_cases hbl : bb = ll
      · have HN : Hid (R = ll) := by have := hst.out; rw [if_pos hbl] at this; exact this
        have hne : ((bb : Int) != (ll : Int)) = false := by simp [hbl]
        clear hst hbl
        go_wp2
        go_ret
        exact ⟨ret_u64 HN.out.symm, rfl⟩
      · have HN : Hid (R = unitsN cs (ll + 1) ll) := by have := hst.out; rw [if_neg hbl] at this; exact this
        have HU : Hid (R = match roundP cs ll with
            | none => 0
            | some l => if l = ll then ll else unitsN cs (l + 1) l) := by show _ = _; rw [HN.out]; exact units_step cs ll
        have HBL : Hid (bb ≠ ll) := hbl
        have hne : ((bb : Int) != (ll : Int)) = true := by simp; omega
        clear hst hbl
        go_wp2_with fail
        clear hne
        go_loopw [7, 23] (fun l i wx => ∃ k l2 : Nat, k ≤ cs.length ∧ i = .int .i64 k ∧ l = .int .u64 (l2 : Int) ∧ Hid (l2 < 2 ^ 36) ∧ Hid (roundP cs ll = roundP (cs.drop k) l2) ∧ wx = wr) (fun _ i _ => cs.length - (intOf i).toNat)
        case atStart => exact ⟨0, ll, by omega, rfl, rfl, hl36, rfl, rfl⟩
        case round =>
          obtain ⟨k, l2, hk, rfl, rfl, hl2, hrd, rfl⟩ := hrel
          by_cases hlt : k < cs.length
          · obtain ⟨z, hz⟩ : ∃ z, cs[k]? = some z := ⟨cs[k], by simp [hlt]⟩
            obtain ⟨hz36, b, off, ha, hb, hc⟩ := HP.out k z hz
            subst ha
            have HZ : Hid (cs[k]? = some z) := hz
            have HRC : Hid (roundP (cs.drop k) l2 = if l2 &&& z = 0 then none
              else if lessN (l2 &&& z) (fieldP (l2 &&& z)) = 0 then roundP (cs.drop (k + 1)) (lessN l2 (lessN (fieldP (l2 &&& z)) (l2 &&& z))) else roundP (cs.drop (k + 1)) l2) := round_cons cs k z l2 hz
            have hand := bits_and_u64_nat l2 z (by have := hl2.out; omega) (by omega)
            obtain ⟨o, ho⟩ : ∃ o, l2 &&& z = o := ⟨_, rfl⟩
            have HO36 : Hid (o < 2 ^ 36) := by rw [← ho]; exact and_lt36 hl2.out
            rw [ho] at hand HRC
            clear hz hz36 ho
            by_cases ho0 : o = 0
            · have HE : Hid (R = 0) := by show _ = _; rw [HU.out, hrd.out, HRC.out, if_pos ho0]
              subst ho0
              clear hrd hl2
              go_wp2
              go_ret
              exact ⟨ret_u64 HE.out.symm, rfl⟩
            · have HRC2 : Hid (roundP (cs.drop k) l2 = if lessN o (fieldP o) = 0 then roundP (cs.drop (k + 1)) (lessN l2 (lessN (fieldP o) o)) else roundP (cs.drop (k + 1)) l2) := by show _ = _; rw [HRC.out, if_neg ho0]
              have HO0 : Hid (o ≠ 0) := ho0
              have ho1 : ((o : Int) == 0) = false := by simpa using ho0
              obtain ⟨f, hf⟩ : ∃ f, fieldP o = f := ⟨_, rfl⟩
              have HF36 : Hid (f < 2 ^ 36) := by rw [← hf]; exact field_lt o ho0 HO36.out
              have hnt := bits_andNot_u64 o f (by have := HO36.out; omega) (by have := HF36.out; omega)
              have HF : Hid (fieldP o = f) := hf
              rw [hf] at HRC2
              obtain ⟨g, hg⟩ : ∃ g, lessN o f = g := ⟨_, rfl⟩
              rw [hg] at hnt HRC2
              clear ho0 hf hg HRC
              by_cases hg0 : g = 0
              · have hn2 := bits_andNot_u64 f o (by have := HF36.out; omega) (by have := HO36.out; omega)
                obtain ⟨t, ht⟩ : ∃ t, lessN f o = t := ⟨_, rfl⟩
                have HT36 : Hid (t < 2 ^ 36) := by rw [← ht]; exact less_lt 36 _ _ HF36.out
                have hn3 := bits_andNot_u64 l2 t (by have := hl2.out; omega) (by have := HT36.out; omega)
                obtain ⟨l3, hl3⟩ : ∃ l3, lessN l2 t = l3 := ⟨_, rfl⟩
                have HL36 : Hid (l3 < 2 ^ 36) := by rw [← hl3]; exact less_lt 36 _ _ hl2.out
                have HE : Hid (roundP cs ll = roundP (cs.drop (k + 1)) l3) := by show _ = _; rw [hrd.out, HRC2.out, if_pos hg0, ht, hl3]
                rw [ht] at hn2
                rw [hl3] at hn3
                subst hg0
                clear hrd ht hl3 HRC2 hl2
                go_wp2_with fail
                refine (field_any o HO0.out HO36.out _ HT.out).mono ?_
                rintro e w ⟨rfl, rfl⟩
                rw [HF.out]
                go_wp2
                go_roundw
                case rel => exact ⟨k + 1, l3, by omega, by go_num, rfl, HL36, HE, trivial⟩
                case measure => simp [intOf]; omega
              · have HE : Hid (roundP cs ll = roundP (cs.drop (k + 1)) l2) := by show _ = _; rw [hrd.out, HRC2.out, if_neg hg0]
                have hg1 : ((g : Int) == 0) = false := by simpa using hg0
                clear hrd hg0 HRC2
                go_wp2_with fail
                refine (field_any o HO0.out HO36.out _ HT.out).mono ?_
                rintro e w ⟨rfl, rfl⟩
                rw [HF.out]
                go_wp2
                go_roundw
                case rel => exact ⟨k + 1, l2, by omega, by go_num, rfl, hl2, HE, trivial⟩
                case measure => simp [intOf]; omega
          · have hke : k = cs.length := by omega
            have HE : Hid (roundP cs ll = some l2) := by show _ = _; rw [hrd.out, hke, List.drop_length]; rfl
            have HLE : Hid (l2 ≤ ll) := round_le cs ll l2 HE.out
            have HU2 : Hid (if ll = l2 then R = l2 else R = unitsN cs (l2 + 1) l2) := by
              show (if _ then _ else _)
              have := HU.out
              rw [HE.out] at this
              simp only at this
              by_cases hq : ll = l2
              · rw [if_pos hq]; rw [if_pos hq.symm] at this; rw [this]; exact hq
              · rw [if_neg hq]; rw [if_neg (fun h => hq h.symm)] at this; exact this
            have HM : Hid ((if (ll : Int) = (l2 : Int) then 0 else (l2 : Int).toNat + 1) < (if (bb : Int) = (ll : Int) then 0 else (ll : Int).toNat + 1)) := by
              show _ < _
              have h1 := HBL.out
              have h2 := HLE.out
              have e : (if (bb : Int) = (ll : Int) then 0 else (ll : Int).toNat + 1) = (ll : Int).toNat + 1 := if_neg (by omega)
              rw [e]
              split <;> omega
            clear hrd hke
            go_wp2
            go_roundw
            case rel => exact ⟨ll, l2, rfl, rfl, hl2, HU2, trivial⟩
            case measure => exact HM.out
  · have HN : Hid (R = 0) := HS.out
    go_wp2
    go_ret
    exact ⟨ret_u64 HN.out.symm, rfl⟩

set_option maxHeartbeats 800000 in
set_option maxRecDepth 100000 in
theorem fails_any (vs : List MVar) (hva : VarsAll vs) (hn1 : 1 ≤ vs.length) (cs : List Nat) (h : Nat) (hh : h < 2 ^ 36) (sv pv : Value) (w : World) (hv : VArg w sv vs) (hp : PArg w pv cs) (hT : TabT w) :
    Calls Tryz.prog 29 #[sv, pv, .int .u64 h] w fun e w' => e = .returned (.bool (failsP vs cs h)) ∧ Below w.heap.size w w' := by
  have HV : Hid (∀ w', Below w.heap.size w w' → VArg w' sv vs) := fun w' h => VArg.below h hv
  have HP : Hid (∀ w', Below w.heap.size w w' → PArg w' pv cs) := fun w' h => PArg.below h hp
  have HT : Hid (∀ w', Below w.heap.size w w' → TabT w') := fun w' h => hT.below h
  have HVO : Hid (VarsAll vs) := hva
  have H6 : Hid (vs.length ≤ 6) := hva.1.1
  have H1 : Hid (1 ≤ vs.length) := hn1
  have HW36 : Hid (wholeP vs < 2 ^ 36) := of_lt vs hva.1 _
  obtain ⟨q, hq⟩ : ∃ q, wholeP vs = q := ⟨_, rfl⟩
  obtain ⟨r, hr⟩ : ∃ r, lessN (wholeP vs) h = r := ⟨_, rfl⟩
  have HR36 : Hid (r < 2 ^ 36) := by rw [← hr]; exact less_lt 36 _ _ HW36.out
  have hbits := bits_andNot_u64 (wholeP vs) h (by have := HW36.out; omega) (by omega)
  rw [hr, hq] at hbits
  have HQ : Hid (wholeP vs = q) := hq
  obtain ⟨R, hR⟩ : ∃ R, failsP vs cs h = R := ⟨_, rfl⟩
  have HS : Hid (R = (((unitsP vs cs r : Nat) : Int) == 0)) := by
    show _ = _
    rw [← hR]; unfold failsP; rw [hr]
    by_cases h0 : unitsP vs cs r = 0
    · rw [h0]; rfl
    · have h1 : (((unitsP vs cs r : Nat) : Int) == 0) = false := by simpa using h0
      rw [h1]; simpa using h0
  rw [hR]
  obtain ⟨a, c, rfl, _, _⟩ := hv
  obtain ⟨a2, c2, rfl, _, _⟩ := hp
  clear hva hh hq hr hT hR hn1
  go_enter Tryz.func29, Tryz.ntmps29
  go_wp2_with fail
  refine (whole_any vs HVO.out _ _ (HV.out _ (Below.refl _ _))).mono ?_
  rintro e w1 ⟨rfl, hb1⟩
  rw [HQ.out]
  have HB1 : Hid (Below w.heap.size w w1) := hb1
  clear hb1
  go_wp2_with fail
  refine (units_any vs H6.out H1.out cs r HR36.out _ _ _ (HV.out _ HB1.out) (HP.out _ HB1.out) (HT.out _ HB1.out)).mono ?_
  rintro e w1 ⟨rfl, rfl⟩
  obtain ⟨U, hU⟩ : ∃ U : Int, ((unitsP vs cs r : Nat) : Int) = U := ⟨_, rfl⟩
  rw [hU] at HS ⊢
  clear hU
  go_wp2
  go_ret
  exact ⟨ret_bool HS.out.symm, HB1.out⟩
end Go.Proofs.YtijohkhpigjbkadGreatDoor
/-
  MEMORY: lists of clauses.
-/
namespace Go.Proofs.YtijohkhpigjbkadGreatDoor
open Go.RowKit

/-- A list of clauses. -/
def LLArg (w : World) (v : Value) (l : List Cla) : Prop :=
  ∃ a c, v = .slice a l.length c ∧ (l.length ≤ c ∧ c ≤ maxLen) ∧ ∀ (i : Nat) (t : Cla), l[i]? = some t → ∃ b off x, a = some ⟨b, off, none⟩ ∧ b < w.heap.size ∧ w.cell? ⟨b, off + i, none⟩ = some x ∧ LArg w x t
theorem LLArg.below {w w' : World} {v : Value} {l : List Cla} (hb : Below w.heap.size w w') (h : LLArg w v l) : LLArg w' v l := by
  obtain ⟨a, c, hv, hm, hr⟩ := h
  refine ⟨a, c, hv, hm, fun i z hz => ?_⟩
  obtain ⟨b, off, x, ha, hlt, hc, hx⟩ := hr i z hz
  exact ⟨b, off, x, ha, Nat.lt_of_lt_of_le hlt hb.size, (hb.cell (p := ⟨b, off + i, none⟩) hlt).trans hc, LArg.below hb hx⟩
end Go.Proofs.YtijohkhpigjbkadGreatDoor
/-
  WALKS: package fault: what is wrong with a literal.
-/
namespace Go.Proofs.YtijohkhpigjbkadGreatDoor
open Go.RowKit

set_option maxHeartbeats 800000 in
set_option maxRecDepth 100000 in
theorem lit_check (vs : List MVar) (l : MLit) (v : Value) (w : World) (hv : VArg w v vs) :
    Calls Tryz.prog 55 #[v, .agg #[.int .i64 l.var, .int .i64 l.op, .int .i64 l.n]] w fun e w' => e = .returned (.int .i64 (litE vs l)) ∧ Below w.heap.size w w' := by
  obtain ⟨a, c, rfl, hm, _⟩ := hv
  unfold maxLen at hm
  obtain ⟨hm1, hm⟩ := hm
  obtain ⟨R, hR⟩ : ∃ R, litE vs l = R := ⟨_, rfl⟩
  rw [hR]
  unfold litE at hR
  by_cases q1 : l.var < 0
  · have HE : Hid (R = 5) := by rw [← hR, if_pos (Or.inl q1)]; rfl
    clear hR
    go_enter Tryz.func55, Tryz.ntmps55
    go_wp2
    go_ret
    exact ⟨ret_int HE.out.symm, below_alloc _ _⟩
  by_cases q2 : (vs.length : Int) ≤ l.var
  · have HE : Hid (R = 5) := by rw [← hR, if_pos (Or.inr q2)]; rfl
    clear hR
    go_enter Tryz.func55, Tryz.ntmps55
    go_wp2
    go_ret
    exact ⟨ret_int HE.out.symm, below_alloc _ _⟩
  rw [if_neg (by omega)] at hR
  by_cases q3 : l.op < 1
  · have HE : Hid (R = 7) := by rw [← hR, if_pos (Or.inl q3)]; rfl
    clear hR
    go_enter Tryz.func55, Tryz.ntmps55
    go_wp2
    go_ret
    exact ⟨ret_int HE.out.symm, below_alloc _ _⟩
  by_cases q4 : 4 < l.op
  · have HE : Hid (R = 7) := by rw [← hR, if_pos (Or.inr q4)]; rfl
    clear hR
    go_enter Tryz.func55, Tryz.ntmps55
    go_wp2
    go_ret
    exact ⟨ret_int HE.out.symm, below_alloc _ _⟩
  rw [if_neg (by omega)] at hR
  by_cases q5 : l.n < -1000
  · have HE : Hid (R = 3) := by rw [← hR, if_pos (Or.inl q5)]; rfl
    clear hR
    go_enter Tryz.func55, Tryz.ntmps55
    go_wp2
    go_ret
    exact ⟨ret_int HE.out.symm, below_alloc _ _⟩
  by_cases q6 : 1000 < l.n
  · have HE : Hid (R = 3) := by rw [← hR, if_pos (Or.inr q6)]; rfl
    clear hR
    go_enter Tryz.func55, Tryz.ntmps55
    go_wp2
    go_ret
    exact ⟨ret_int HE.out.symm, below_alloc _ _⟩
  have HE : Hid (R = 0) := by rw [← hR, if_neg (by omega)]; rfl
  clear hR
  go_enter Tryz.func55, Tryz.ntmps55
  go_wp2
  go_ret
  exact ⟨ret_int HE.out.symm, below_alloc _ _⟩

end Go.Proofs.YtijohkhpigjbkadGreatDoor
/-
  WALKS: package fault: what is wrong with a clause.
-/
namespace Go.Proofs.YtijohkhpigjbkadGreatDoor
open Go.RowKit

set_option maxHeartbeats 800000 in
set_option maxRecDepth 100000 in
theorem cla_check (vs : List MVar) (c : Cla) (v u : Value) (w : World) (hv : VArg w v vs) (hu : LArg w u c) :
    Calls Tryz.prog 23 #[v, u] w fun e w' => e = .returned (.int .i64 (claE vs c)) ∧ Below w.heap.size w w' := by
  have HVA : Hid (∀ w' : World, Below w.heap.size w w' → VArg w' v vs) := fun w' h => VArg.below h hv
  obtain ⟨a1, c1, rfl, _, _⟩ := hv
  obtain ⟨a, cc, rfl, hm, hr⟩ := hu
  have HV : Hid (∀ (i : Nat) (t : MLit), c[i]? = some t → ∃ b off, a = some ⟨b, off, none⟩ ∧ b < w.heap.size ∧
    w.cell? ⟨b, off + i * 3, none⟩ = some (.int .i64 t.var) ∧ w.cell? ⟨b, off + i * 3 + 1, none⟩ = some (.int .i64 t.op) ∧ w.cell? ⟨b, off + i * 3 + 2, none⟩ = some (.int .i64 t.n)) := hr
  unfold maxLen at hm
  obtain ⟨hm1, hm⟩ := hm
  obtain ⟨R, hR⟩ : ∃ R, claE vs c = R := ⟨_, rfl⟩
  rw [hR]
  have HE : Hid (R = if 40 < c.length then 2 else firstE (c.map (litE vs))) := by rw [← hR]; rfl
  clear hR hr
  by_cases h40 : 40 < c.length
  · have HN : Hid (R = 2) := by rw [HE.out, if_pos h40]; rfl
    go_enter Tryz.func23, Tryz.ntmps23
    go_wp2
    go_ret
    exact ⟨ret_int HN.out.symm, Below.refl _ _⟩
  · have HE2 : Hid (R = firstE (c.map (litE vs))) := by rw [HE.out, if_neg h40]; rfl
    go_enter Tryz.func23, Tryz.ntmps23
    go_wp2_with fail
    go_loopw [13] (fun i wr => ∃ k : Nat, k ≤ c.length ∧ i = .int .i64 k ∧ Hid (firstE ((c.map (litE vs)).take k) = 0) ∧ Below w.heap.size w wr) (fun i _ => c.length - (intOf i).toNat)
    case atStart => exact ⟨0, by omega, rfl, rfl, Below.refl _ _⟩
    case round =>
      obtain ⟨k, hk, rfl, hall, hbw⟩ := hrel
      by_cases hlt : k < c.length
      · obtain ⟨t, hz⟩ : ∃ z, c[k]? = some z := ⟨c[k], by simp [hlt]⟩
        obtain ⟨b, off, ha, hb, q0, q1, q2⟩ := HV.out k t hz
        have hc0 := (hbw.cell (p := ⟨b, off + k * 3, none⟩) hb).trans q0
        have hc1 := (hbw.cell (p := ⟨b, off + k * 3 + 1, none⟩) hb).trans q1
        have hc2 := (hbw.cell (p := ⟨b, off + k * 3 + 2, none⟩) hb).trans q2
        have hsz := hbw.size
        subst ha
        obtain ⟨er, her⟩ : ∃ er, litE vs t = er := ⟨_, rfl⟩
        have HER : Hid (litE vs t = er) := her
        have HZ : Hid ((c.map (litE vs))[k]? = some er) := by show _ = _; rw [List.getElem?_map, hz, ← her]; rfl
        clear hz q0 q1 q2 her
        go_wp2_with fail
        refine (lit_check vs t _ _ ?_).mono ?_
        · exact HVA.out _ (hbw.alloc hsz _)
        rintro e w2 ⟨rfl, hb2⟩
        rw [HER.out]
        have hB2 : Below w.heap.size w w2 := (hbw.alloc hsz _).trans (hb2.mono (by simp; omega))
        clear hb2
        by_cases he : er = 0
        · subst he
          have HN : Hid (firstE ((c.map (litE vs)).take (k + 1)) = 0) := firstE_step _ k hall.out HZ.out
          go_wp2
          go_roundw
          case rel => exact ⟨k + 1, by omega, by go_num, HN, hB2⟩
          case measure => simp [intOf]; omega
        · have HN : Hid (R = er) := by rw [HE2.out]; exact firstE_hit _ k er hall.out HZ.out he
          have he2 : (er != 0) = true := by simpa using he
          clear he
          go_wp2
          go_ret
          exact ⟨ret_int HN.out.symm, hB2⟩
      · have HN : Hid (R = 0) := by
          have := hall.out
          rw [List.take_of_length_le (by simp; omega)] at this
          rw [HE2.out]; exact this
        go_wp2
        go_ret
        exact ⟨ret_int HN.out.symm, hbw⟩
end Go.Proofs.YtijohkhpigjbkadGreatDoor
/-
  WALK: package fault: what is wrong with clauses.
-/
namespace Go.Proofs.YtijohkhpigjbkadGreatDoor
open Go.RowKit

set_option maxHeartbeats 800000 in
set_option maxRecDepth 100000 in
theorem clas_check (vs : List MVar) (l : List Cla) (v u : Value) (w : World) (hv : VArg w v vs) (hu : LLArg w u l) :
    Calls Tryz.prog 28 #[v, u] w fun e w' => e = .returned (.int .i64 (clasE vs l)) ∧ Below w.heap.size w w' := by
  have HVA : Hid (∀ w' : World, Below w.heap.size w w' → VArg w' v vs) := fun w' h => VArg.below h hv
  obtain ⟨a1, c1, rfl, _, _⟩ := hv
  obtain ⟨a, cc, rfl, hm, hr⟩ := hu
  have HV : Hid (∀ (i : Nat) (t : Cla), l[i]? = some t → ∃ b off x, a = some ⟨b, off, none⟩ ∧ b < w.heap.size ∧ w.cell? ⟨b, off + i, none⟩ = some x ∧ LArg w x t) := hr
  unfold maxLen at hm
  obtain ⟨hm1, hm⟩ := hm
  obtain ⟨R, hR⟩ : ∃ R, clasE vs l = R := ⟨_, rfl⟩
  rw [hR]
  have HE : Hid (R = if 600 < l.length then 2 else firstE (l.map (claE vs))) := by rw [← hR]; rfl
  clear hR hr
  by_cases h40 : 600 < l.length
  · have HN : Hid (R = 2) := by rw [HE.out, if_pos h40]; rfl
    go_enter Tryz.func28, Tryz.ntmps28
    go_wp2
    go_ret
    exact ⟨ret_int HN.out.symm, Below.refl _ _⟩
  · have HE2 : Hid (R = firstE (l.map (claE vs))) := by rw [HE.out, if_neg h40]; rfl
    go_enter Tryz.func28, Tryz.ntmps28
    go_wp2_with fail
    go_loopw [13] (fun i wr => ∃ k : Nat, k ≤ l.length ∧ i = .int .i64 k ∧ Hid (firstE ((l.map (claE vs)).take k) = 0) ∧ Below w.heap.size w wr) (fun i _ => l.length - (intOf i).toNat)
    case atStart => exact ⟨0, by omega, rfl, rfl, Below.refl _ _⟩
    case round =>
      obtain ⟨k, hk, rfl, hall, hbw⟩ := hrel
      by_cases hlt : k < l.length
      · obtain ⟨t, hz⟩ : ∃ z, l[k]? = some z := ⟨l[k], by simp [hlt]⟩
        obtain ⟨b, off, x, ha, hb, q0, hx⟩ := HV.out k t hz
        have HX : Hid (LArg wr x t) := LArg.below hbw hx
        obtain ⟨a5, c5, rfl, _, _⟩ := hx
        have hc0 := (hbw.cell (p := ⟨b, off + k, none⟩) hb).trans q0
        subst ha
        obtain ⟨er, her⟩ : ∃ er, claE vs t = er := ⟨_, rfl⟩
        have HER : Hid (claE vs t = er) := her
        have HZ : Hid ((l.map (claE vs))[k]? = some er) := by show _ = _; rw [List.getElem?_map, hz, ← her]; rfl
        clear hz q0 her
        go_wp2_with fail
        refine (cla_check vs t _ _ _ (HVA.out _ hbw) HX.out).mono ?_
        rintro e w2 ⟨rfl, hb2⟩
        rw [HER.out]
        have hB2 : Below w.heap.size w w2 := hbw.trans (hb2.mono hbw.size)
        clear hb2
        by_cases he : er = 0
        · subst he
          have HN : Hid (firstE ((l.map (claE vs)).take (k + 1)) = 0) := firstE_step _ k hall.out HZ.out
          go_wp2
          go_roundw
          case rel => exact ⟨k + 1, by omega, by go_num, HN, hB2⟩
          case measure => simp [intOf]; omega
        · have HN : Hid (R = er) := by rw [HE2.out]; exact firstE_hit _ k er hall.out HZ.out he
          have he2 : (er != 0) = true := by simpa using he
          clear he
          go_wp2
          go_ret
          exact ⟨ret_int HN.out.symm, hB2⟩
      · have HN : Hid (R = 0) := by
          have := hall.out
          rw [List.take_of_length_le (by simp; omega)] at this
          rw [HE2.out]; exact this
        go_wp2
        go_ret
        exact ⟨ret_int HN.out.symm, hbw⟩
end Go.Proofs.YtijohkhpigjbkadGreatDoor
/-
  WALKS: package proof: held, Con, Unit.
-/
namespace Go.Proofs.YtijohkhpigjbkadGreatDoor
open Go.RowKit

theorem held_lt (m : Mod) (hm : checkM m = 0) (c : Cla) : heldP m.vars c < 2 ^ 36 := of_lt m.vars (vars_okP m hm) _
theorem Tryz.infoPartP : (Tryz.prog.info? 58).map (fun i => (i.zero, i.size, i.bytes)) = some (some (.int .u64 0), 1, 8) := by kernel_rfl
theorem parts_own (w : World) (n base : Nat) (hn : n ≤ 100000) (hb : base ≤ w.heap.size) : (w.alloc (.cells (madeCells #[.int .u64 0] n) 58)).ownsRow base 58 1 (.slice (some ⟨w.heap.size, 0, none⟩) n n) n (List.replicate n (.int .u64 0)) := by
  refine ⟨by simp, Or.inr ⟨w.heap.size, n, _, rfl, hb, heap_alloc_new w _, Nat.le_refl _, by unfold maxLen; omega, ?_, ?_⟩⟩
  · have h := congrArg List.length (toList_madeCells_one (.int .u64 0) n)
    simp at h
    simpa using h
  · rw [toList_madeCells_one]
    simp

set_option maxHeartbeats 1600000 in
set_option maxRecDepth 100000 in
theorem pheld_any (m : Mod) (hm : checkM m = 0) (l : List Cla) (hl6 : l.length ≤ 600) (vs cs u : Value) (w : World) (hma : MArg w vs cs m) (hu : LLArg w u l) :
    Calls Tryz.prog 30 #[modV vs cs m, u] w fun e w' => ∃ x, e = .returned x ∧ w'.ownsRow (w.heap.size + 1) 58 1 x l.length (u64s (l.map (heldP m.vars))) ∧ Below w.heap.size w w' := by
  have HMA : Hid (∀ w', Below w.heap.size w w' → MArg w' vs cs m) := fun w' h => MArg.below h hma
  have HM : Hid (checkM m = 0) := hm
  have hmk := run_make_row' (P := Tryz.prog) 55 58 (.int .u64 0) 8 Tryz.underParts Tryz.infoPartP rfl .i64 .i64 l.length (by omega) (by omega)
  obtain ⟨⟨a1, c1, rfl, _, _⟩, ⟨a2, c2, rfl, _, _⟩⟩ := hma
  obtain ⟨a3, c3, rfl, hm3, hr3⟩ := hu
  have HR3 : Hid (∀ (i : Nat) (t : Cla), l[i]? = some t → ∃ b off x, a3 = some ⟨b, off, none⟩ ∧ b < w.heap.size ∧ w.cell? ⟨b, off + i, none⟩ = some x ∧ LArg w x t) := hr3
  unfold maxLen at hm3
  obtain ⟨hm31, hm3⟩ := hm3
  unfold modV
  clear hm hr3
  go_enter Tryz.func30, Tryz.ntmps30
  go_wp2_with fail
  clear hmk
  have HB0 : Hid (Below w.heap.size w ((w.alloc (.cells #[.slice a1 m.vars.length c1, .slice a2 m.cons.length c2, .int .i64 m.goal, .int .i64 m.var] 25)).alloc (.cells (madeCells #[.int .u64 0] l.length) 58))) := (below_alloc _ _).alloc (by simp) _
  have HQ0 : Hid (((w.alloc (.cells #[.slice a1 m.vars.length c1, .slice a2 m.cons.length c2, .int .i64 m.goal, .int .i64 m.var] 25)).alloc (.cells (madeCells #[.int .u64 0] l.length) 58)).cell? ⟨w.heap.size, 0, none⟩ = some (.slice a1 m.vars.length c1)) :=
    (World.cell?_alloc_past _ _ _ (by simp)).trans (World.cell?_alloc_at _ _ _ 0 (by simp))
  have HO0 : Hid (((w.alloc (.cells #[.slice a1 m.vars.length c1, .slice a2 m.cons.length c2, .int .i64 m.goal, .int .i64 m.var] 25)).alloc (.cells (madeCells #[.int .u64 0] l.length) 58)).ownsRow (w.heap.size + 1) 58 1 (.slice (some ⟨w.heap.size + 1, 0, none⟩) l.length l.length) l.length (List.replicate l.length (.int .u64 0))) := by
    have h := parts_own (w.alloc (.cells #[.slice a1 m.vars.length c1, .slice a2 m.cons.length c2, .int .i64 m.goal, .int .i64 m.var] 25)) l.length (w.heap.size + 1) (by omega) (by simp)
    show World.ownsRow _ _ _ _ _ _ _
    simpa using h
  have HS0 : Hid (((w.alloc (.cells #[.slice a1 m.vars.length c1, .slice a2 m.cons.length c2, .int .i64 m.goal, .int .i64 m.var] 25)).alloc (.cells (madeCells #[.int .u64 0] l.length) 58)).heap.size = w.heap.size + 2) := by show _ = _; simp
  obtain ⟨W, hW⟩ : ∃ W, (w.alloc (.cells #[.slice a1 m.vars.length c1, .slice a2 m.cons.length c2, .int .i64 m.goal, .int .i64 m.var] 25)).alloc (.cells (madeCells #[.int .u64 0] l.length) 58) = W := ⟨_, rfl⟩
  rw [hW] at HB0 HQ0 HO0 HS0 ⊢
  clear hW
  go_loopw [13] (fun i wr => ∃ (k : Nat) (cells : List Value), k ≤ l.length ∧ i = .int .i64 k ∧ wr.ownsRow (w.heap.size + 1) 58 1 (.slice (some ⟨w.heap.size + 1, 0, none⟩) l.length l.length) l.length cells ∧ Hid (∀ j c, j < k → l[j]? = some c → cells[j]? = some (.int .u64 ((heldP m.vars c : Nat) : Int))) ∧ Below (w.heap.size + 1) W wr) (fun i _ => l.length - (intOf i).toNat)
  case atStart => exact ⟨0, _, by omega, rfl, HO0.out, fun j c h => by omega, Below.refl _ _⟩
  case round =>
    obtain ⟨k, cells, hk, rfl, hown, hall, hbw⟩ := hrel
    have HOW : Hid (wr.ownsRow (w.heap.size + 1) 58 1 (.slice (some ⟨w.heap.size + 1, 0, none⟩) l.length l.length) l.length cells) := hown
    have HBW : Hid (Below (w.heap.size + 1) W wr) := hbw
    have HBN : Hid (Below w.heap.size w wr) := HB0.out.trans (hbw.mono (by omega))
    have hq0 := (hbw.cell (p := ⟨w.heap.size, 0, none⟩) (by simp only; omega)).trans HQ0.out
    clear hown hbw
    by_cases hlt : k < l.length
    · obtain ⟨c, hc⟩ : ∃ c, l[k]? = some c := ⟨l[k], by simp [hlt]⟩
      obtain ⟨b, off, x, hax, hb, hcc0, hxa⟩ := HR3.out k c hc
      subst hax
      have hcc := (HBN.out.cell (p := ⟨b, off + k, none⟩) hb).trans hcc0
      have HXA : Hid (LArg wr x c) := LArg.below HBN.out hxa
      obtain ⟨ax, cx, rfl, _, _⟩ := hxa
      have HCK : Hid (l[k]? = some c) := hc
      have hlen : cells.length = l.length := by have := HOW.out.1; omega
      have HLEN : Hid (cells.length = l.length) := hlen
      clear hc hlen hcc0 hb
      obtain ⟨wo, rfl⟩ : ∃ wo : World, wo = wr := ⟨_, rfl⟩
      go_wp2_with fail
      refine (held_any m.vars (vars_all m HM.out) c _ _ _ (HMA.out _ HBN.out).1 HXA.out).mono ?_
      rintro e w1 ⟨rfl, hb1⟩
      have HOW1 : Hid (w1.ownsRow (w.heap.size + 1) 58 1 (.slice (some ⟨w.heap.size + 1, 0, none⟩) l.length l.length) l.length cells) := own_below HOW.out hb1
      have HBW1 : Hid (Below (w.heap.size + 1) W w1) := HBW.out.trans (hb1.mono (by have := HBW.out.size; have := HS0.out; omega))
      obtain ⟨y, hy⟩ : ∃ y, cells[k]? = some y := ⟨cells[k]'(by rw [HLEN.out]; exact hlt), by simp⟩
      have cN : w1.cell? ⟨w.heap.size + 1, k, none⟩ = some y := by rw [HOW1.out.cellAt k (by omega)]; exact hy
      have zN := HOW1.out.frozenAt k
      have HST : Hid ((w1.setCell ⟨w.heap.size + 1, k, none⟩ (.int .u64 ((heldP m.vars c : Nat) : Int))).ownsRow (w.heap.size + 1) 58 1 (.slice (some ⟨w.heap.size + 1, 0, none⟩) l.length l.length) l.length (cells.set k (.int .u64 ((heldP m.vars c : Nat) : Int)))) := (HOW1.out.stored k _).1
      have HBS : Hid (Below (w.heap.size + 1) W (w1.setCell ⟨w.heap.size + 1, k, none⟩ (.int .u64 ((heldP m.vars c : Nat) : Int)))) := HBW1.out.setCell (show w.heap.size + 1 ≤ w.heap.size + 1 from Nat.le_refl _) _
      have HAL : Hid (∀ j d, j < k + 1 → l[j]? = some d → (cells.set k (.int .u64 ((heldP m.vars c : Nat) : Int)))[j]? = some (.int .u64 ((heldP m.vars d : Nat) : Int))) := by
        intro j d hj hd
        by_cases hjk : j = k
        · subst hjk
          rw [HCK.out] at hd
          cases hd
          rw [List.getElem?_set_self (by rw [HLEN.out]; exact hlt)]
        · rw [List.getElem?_set_ne (fun h => hjk h.symm)]
          exact hall.out j d (by omega) hd
      have hlN : w.heap.size + 1 < w1.heap.size := by have := (HOW1.out.lt (w.heap.size + 1) rfl).2; exact this
      clear hy hb1 hq0
      go_wp2
      go_roundw
      case rel => exact ⟨k + 1, _, by omega, by go_num, HST.out, HAL, HBS.out⟩
      case measure => simp [intOf]; omega
    · have hke : k = l.length := by omega
      have HE : Hid (cells = u64s (l.map (heldP m.vars))) := by
        show _ = _
        have hlen : cells.length = l.length := by have := HOW.out.1; omega
        apply List.ext_getElem?
        intro j
        by_cases hj : j < l.length
        · rw [hall.out j l[j] (by omega) (by simp [hj])]
          unfold u64s
          simp [hj]
        · rw [List.getElem?_eq_none (by omega), List.getElem?_eq_none (by unfold u64s; simp; omega)]
      have HF : Hid (wr.ownsRow (w.heap.size + 1) 58 1 (.slice (some ⟨w.heap.size + 1, 0, none⟩) l.length l.length) l.length (u64s (l.map (heldP m.vars)))) := by rw [← HE.out]; exact HOW.out
      clear hke hq0
      go_wp2
      go_ret
      exact ⟨_, rfl, HF.out, HBN.out⟩
end Go.Proofs.YtijohkhpigjbkadGreatDoor
/-
  WALKS: package proof: Con, Unit.
-/
namespace Go.Proofs.YtijohkhpigjbkadGreatDoor
open Go.RowKit

def pconA (m : Mod) (con : Int) (c : Cla) : Bool × Int :=
  if conCheck m con = 0 then (if claE m.vars c = 0 then (saysP m.vars (pointsP m.vars (m.cons.getD con.toNat noCon)) (heldP m.vars c), 0) else (false, claE m.vars c)) else (false, conCheck m con)
def punitA (m : Mod) (l : List Cla) (c : Cla) : Bool × Int :=
  if checkM m = 0 then (if clasE m.vars l = 0 then (if claE m.vars c = 0 then (failsP m.vars (l.map (heldP m.vars)) (heldP m.vars c), 0) else (false, claE m.vars c)) else (false, clasE m.vars l)) else (false, checkM m)
theorem scopeA_err (m : Mod) (con : Int) : (scopeA m con).2 = conCheck m con := by
  unfold scopeA
  split
  · rename_i h; exact h.symm
  · rfl

set_option maxHeartbeats 1600000 in
set_option maxRecDepth 100000 in
theorem pcon_any (m : Mod) (con : Int) (c : Cla) (vs cs u : Value) (w : World) (hma : MArg w vs cs m) (hu : LArg w u c) :
    Calls Tryz.prog 6 #[modV vs cs m, .int .i64 con, u] w fun e w' => e = .returned (.tuple #[.bool (pconA m con c).1, .int .i64 (pconA m con c).2]) ∧ Below w.heap.size w w' := by
  have HMA : Hid (∀ w', Below w.heap.size w w' → MArg w' vs cs m) := fun w' h => MArg.below h hma
  have HU : Hid (∀ w', Below w.heap.size w w' → LArg w' u c) := fun w' h => LArg.below h hu
  obtain ⟨R, hR⟩ : ∃ R, pconA m con c = R := ⟨_, rfl⟩
  have HR : Hid (pconA m con c = R) := hR
  rw [hR]
  obtain ⟨⟨a1, c1, rfl, _, _⟩, ⟨a2, c2, rfl, _, _⟩⟩ := hma
  obtain ⟨a3, c3, rfl, _, _⟩ := hu
  unfold modV
  clear hR
  go_enter Tryz.func6, Tryz.ntmps6
  go_wp2_with fail
  refine (mscope_any m con _ _ _ (HMA.out _ (below_alloc _ _))).mono ?_
  rw [scopeA_err]
  rintro e w1 ⟨x, rfl, hx, hb1⟩
  obtain ⟨ax, cx, rfl, _, _⟩ := hx
  have HB1 : Hid (Below w.heap.size w w1) := (below_alloc _ _).trans (hb1.mono (by simp))
  have l1 : w.heap.size < w1.heap.size := by have := hb1.size; simp at this; omega
  have k0 : w1.cell? ⟨w.heap.size, 0, none⟩ = some (.slice a1 m.vars.length c1) := (hb1.cell (by simp)).trans (World.cell?_alloc_at _ _ _ 0 (by simp))
  have k1 : w1.cell? ⟨w.heap.size, 1, none⟩ = some (.slice a2 m.cons.length c2) := (hb1.cell (by simp)).trans (World.cell?_alloc_at _ _ _ 1 (by simp))
  have k2 : w1.cell? ⟨w.heap.size, 2, none⟩ = some (.int .i64 m.goal) := (hb1.cell (by simp)).trans (World.cell?_alloc_at _ _ _ 2 (by simp))
  have k3 : w1.cell? ⟨w.heap.size, 3, none⟩ = some (.int .i64 m.var) := (hb1.cell (by simp)).trans (World.cell?_alloc_at _ _ _ 3 (by simp))
  clear hb1
  obtain ⟨er, her⟩ : ∃ er, conCheck m con = er := ⟨_, rfl⟩
  have HER : Hid (conCheck m con = er) := her
  rw [her]
  clear her
  by_cases he : er = 0
  · subst he
    obtain ⟨ok1, ok2, ok3⟩ := conCheck_ok m con HER.out
    obtain ⟨j, rfl⟩ : ∃ j : Nat, con = (j : Int) := ⟨con.toNat, by omega⟩
    have hj : j < m.cons.length := by omega
    obtain ⟨k, hk⟩ : ∃ k, m.cons[j]? = some k := ⟨m.cons[j], by simp [hj]⟩
    have HK : Hid (m.cons[j]? = some k) := hk
    have HM : Hid (checkM m = 0) := ok1
    have HR2 : Hid (R = if claE m.vars c = 0 then (saysP m.vars (pointsP m.vars k) (heldP m.vars c), 0) else (false, claE m.vars c)) := by
      show _ = _
      rw [← HR.out]
      unfold pconA
      rw [if_pos HER.out, Int.toNat_natCast, List.getD_eq_getElem?_getD, hk]; rfl
    clear hk ok1 ok2 ok3
    go_wp2_with fail
    refine (cla_check m.vars c _ _ _ (HMA.out _ HB1.out).1 (HU.out _ HB1.out)).mono ?_
    rintro e w2 ⟨rfl, hb2⟩
    have HB2 : Hid (Below w.heap.size w w2) := HB1.out.trans (hb2.mono HB1.out.size)
    have l2 : w.heap.size < w2.heap.size := Nat.lt_of_lt_of_le l1 hb2.size
    have j0 := (hb2.cell (p := ⟨w.heap.size, 0, none⟩) l1).trans k0
    have j1 := (hb2.cell (p := ⟨w.heap.size, 1, none⟩) l1).trans k1
    have j2 := (hb2.cell (p := ⟨w.heap.size, 2, none⟩) l1).trans k2
    have j3 := (hb2.cell (p := ⟨w.heap.size, 3, none⟩) l1).trans k3
    clear hb2 k0 k1 k2 k3 l1
    obtain ⟨ec, hec⟩ : ∃ ec, claE m.vars c = ec := ⟨_, rfl⟩
    rw [hec] at HR2 ⊢
    clear hec
    by_cases hc0 : ec = 0
    · subst hc0
      have HRF : Hid (R = (saysP m.vars (pointsP m.vars k) (heldP m.vars c), 0)) := by show _ = _; rw [HR2.out, if_pos rfl]
      have HPT : Hid (∀ Y, Below w2.heap.size w2 Y → Calls Tryz.prog 25 #[.agg #[.slice a1 m.vars.length c1, .slice a2 m.cons.length c2, .int .i64 m.goal, .int .i64 m.var], .int .i64 (j : Int)] Y fun e w' => ∃ x, e = .returned x ∧ PArg w' x (pointsP m.vars k) ∧ Below Y.heap.size Y w') := fun Y hY =>
        points_any m j k _ _ Y HM.out HK.out (HMA.out _ (HB2.out.trans (hY.mono HB2.out.size)))
      have HHE : Hid (∀ Y, Below w2.heap.size w2 Y → Calls Tryz.prog 26 #[.slice a1 m.vars.length c1, .slice a3 (List.length c) c3] Y fun e w' => e = .returned (.int .u64 ((heldP m.vars c : Nat) : Int)) ∧ Below Y.heap.size Y w') := fun Y hY =>
        held_any m.vars (vars_all m HM.out) c _ _ Y (HMA.out _ (HB2.out.trans (hY.mono HB2.out.size))).1 (HU.out _ (HB2.out.trans (hY.mono HB2.out.size)))
      have HSA : Hid (∀ (Y : World) (pv : Value), Below w2.heap.size w2 Y → PArg Y pv (pointsP m.vars k) → Calls Tryz.prog 24 #[.slice a1 m.vars.length c1, pv, .int .u64 ((heldP m.vars c : Nat) : Int)] Y fun e w' => e = .returned (.bool (saysP m.vars (pointsP m.vars k) (heldP m.vars c))) ∧ Below Y.heap.size Y w') := fun Y pv hY hp =>
        says_any m.vars (vars_all m HM.out) _ _ (held_lt m HM.out c) _ pv Y (HMA.out _ (HB2.out.trans (hY.mono HB2.out.size))).1 hp
      clear HR2 HR HER
      go_wp2_with fail
      go_region_held3 (fun w' => Below w2.heap.size w2 w' ∧ w'.cell? ⟨w.heap.size, 0, none⟩ = some (.slice a1 m.vars.length c1) ∧ w'.cell? ⟨w.heap.size, 1, none⟩ = some (.slice a2 m.cons.length c2) ∧ w'.cell? ⟨w.heap.size, 2, none⟩ = some (.int .i64 m.goal) ∧ w'.cell? ⟨w.heap.size, 3, none⟩ = some (.int .i64 m.var))
        ((refine (fun (hB : Below w2.heap.size w2 _) => ⟨hB, (hB.cell (p := ⟨w.heap.size, 0, none⟩) l2).trans j0, (hB.cell (p := ⟨w.heap.size, 1, none⟩) l2).trans j1, (hB.cell (p := ⟨w.heap.size, 2, none⟩) l2).trans j2, (hB.cell (p := ⟨w.heap.size, 3, none⟩) l2).trans j3⟩ : Below w2.heap.size w2 _ → _) ?_; first | exact (Below.refl _ _).drew | exact fen_call (by assumption) hbq))
        (first
          | (go_at_call 25; refine (HPT.out _ (show Below w2.heap.size w2 _ ∧ _ by assumption).1).mono ?_; rintro e w3 ⟨x, rfl, hp3, hbq⟩; have HP3 : Hid (PArg w3 x (pointsP m.vars k)) := hp3; obtain ⟨ap, cp, rfl, _, _⟩ := hp3; have hB3 := fen_call (by assumption) hbq)
          | (go_at_call 26; refine (HHE.out _ (show Below w2.heap.size w2 _ ∧ _ by assumption).1).mono ?_; rintro e w4 ⟨rfl, hbq⟩; have HP4 : Hid (PArg w4 _ (pointsP m.vars k)) := PArg.below hbq HP3.out; have hB4 := fen_call (by assumption) hbq)
          | (go_at_call 24; refine (HSA.out _ _ (show Below w2.heap.size w2 _ ∧ _ by assumption).1 HP4.out).mono ?_; rintro e w5 ⟨rfl, hbq⟩; have hB5 := fen_call (by assumption) hbq))
      have HB5 : Hid (Below w.heap.size w w5) := HB2.out.trans (hB5.mono HB2.out.size)
      go_wp2
      go_ret2
      exact ⟨by rw [HRF.out]; rfl, HB5.out⟩
    · have HRF : Hid (R = (false, ec)) := by show _ = _; rw [HR2.out, if_neg hc0]
      have he2 : (ec != 0) = true := by simpa using hc0
      clear hc0 HR2
      go_wp2
      go_ret2
      exact ⟨by rw [HRF.out]; rfl, HB2.out⟩
  · have HRF : Hid (R = (false, er)) := by
      show _ = _
      rw [← HR.out]
      unfold pconA
      rw [HER.out, if_neg he]
    have he2 : (er != 0) = true := by simpa using he
    clear he
    go_wp2
    go_ret2
    exact ⟨by rw [HRF.out]; rfl, HB1.out⟩
end Go.Proofs.YtijohkhpigjbkadGreatDoor
/-
  WALKS: package proof: Unit.
-/
namespace Go.Proofs.YtijohkhpigjbkadGreatDoor
open Go.RowKit

theorem helds_lt (m : Mod) (hm : checkM m = 0) (l : List Cla) : ∀ z ∈ l.map (heldP m.vars), z < 2 ^ 36 := by
  intro z hz
  obtain ⟨c, _, rfl⟩ := List.mem_map.1 hz
  exact held_lt m hm c

set_option maxHeartbeats 1600000 in
set_option maxRecDepth 100000 in
theorem punit_any (m : Mod) (l : List Cla) (c : Cla) (vs cs ul u : Value) (w : World) (hma : MArg w vs cs m) (hul : LLArg w ul l) (hu : LArg w u c) (hT : TabT w) :
    Calls Tryz.prog 7 #[modV vs cs m, ul, u] w fun e w' => e = .returned (.tuple #[.bool (punitA m l c).1, .int .i64 (punitA m l c).2]) ∧ Below w.heap.size w w' := by
  have HMA : Hid (∀ w', Below w.heap.size w w' → MArg w' vs cs m) := fun w' h => MArg.below h hma
  have HU : Hid (∀ w', Below w.heap.size w w' → LArg w' u c) := fun w' h => LArg.below h hu
  have HL : Hid (∀ w', Below w.heap.size w w' → LLArg w' ul l) := fun w' h => LLArg.below h hul
  have HT : Hid (∀ w', Below w.heap.size w w' → TabT w') := fun w' h => hT.below h
  obtain ⟨R, hR⟩ : ∃ R, punitA m l c = R := ⟨_, rfl⟩
  have HR : Hid (punitA m l c = R) := hR
  rw [hR]
  obtain ⟨⟨a1, c1, rfl, _, _⟩, ⟨a2, c2, rfl, _, _⟩⟩ := hma
  obtain ⟨a3, c3, rfl, _, _⟩ := hu
  obtain ⟨a4, c4, rfl, _, _⟩ := hul
  unfold modV
  clear hR hT
  go_enter Tryz.func7, Tryz.ntmps7
  go_wp2_with fail
  refine (check_model m _ _ _ (HMA.out _ (below_alloc _ _))).mono ?_
  rintro e w1 ⟨rfl, hb1⟩
  have HB1 : Hid (Below w.heap.size w w1) := (below_alloc _ _).trans (hb1.mono (by simp))
  have l1 : w.heap.size < w1.heap.size := by have := hb1.size; simp at this; omega
  have k0 : w1.cell? ⟨w.heap.size, 0, none⟩ = some (.slice a1 m.vars.length c1) := (hb1.cell (by simp)).trans (World.cell?_alloc_at _ _ _ 0 (by simp))
  have k1 : w1.cell? ⟨w.heap.size, 1, none⟩ = some (.slice a2 m.cons.length c2) := (hb1.cell (by simp)).trans (World.cell?_alloc_at _ _ _ 1 (by simp))
  have k2 : w1.cell? ⟨w.heap.size, 2, none⟩ = some (.int .i64 m.goal) := (hb1.cell (by simp)).trans (World.cell?_alloc_at _ _ _ 2 (by simp))
  have k3 : w1.cell? ⟨w.heap.size, 3, none⟩ = some (.int .i64 m.var) := (hb1.cell (by simp)).trans (World.cell?_alloc_at _ _ _ 3 (by simp))
  clear hb1
  obtain ⟨er, her⟩ : ∃ er, checkM m = er := ⟨_, rfl⟩
  have HER : Hid (checkM m = er) := her
  rw [her]
  clear her
  by_cases he : er = 0
  · subst he
    have HM : Hid (checkM m = 0) := HER.out
    have HR2 : Hid (R = if clasE m.vars l = 0 then (if claE m.vars c = 0 then (failsP m.vars (l.map (heldP m.vars)) (heldP m.vars c), 0) else (false, claE m.vars c)) else (false, clasE m.vars l)) := by
      show _ = _
      rw [← HR.out]
      unfold punitA
      rw [if_pos HM.out]
    clear HR HER
    go_wp2_with fail
    refine (clas_check m.vars l _ _ _ (HMA.out _ HB1.out).1 (HL.out _ HB1.out)).mono ?_
    rintro e w2 ⟨rfl, hb2⟩
    have HB2 : Hid (Below w.heap.size w w2) := HB1.out.trans (hb2.mono HB1.out.size)
    have l2 : w.heap.size < w2.heap.size := Nat.lt_of_lt_of_le l1 hb2.size
    have j0 := (hb2.cell (p := ⟨w.heap.size, 0, none⟩) l1).trans k0
    have j1 := (hb2.cell (p := ⟨w.heap.size, 1, none⟩) l1).trans k1
    have j2 := (hb2.cell (p := ⟨w.heap.size, 2, none⟩) l1).trans k2
    have j3 := (hb2.cell (p := ⟨w.heap.size, 3, none⟩) l1).trans k3
    clear hb2 k0 k1 k2 k3 l1
    obtain ⟨el, hel⟩ : ∃ el, clasE m.vars l = el := ⟨_, rfl⟩
    have HEL : Hid (clasE m.vars l = el) := hel
    rw [hel] at HR2 ⊢
    clear hel
    by_cases hl0 : el = 0
    · subst hl0
      have HLO := clasE_ok m.vars l HEL.out
      have HL6 : Hid (l.length ≤ 600) := HLO.1
      have HR3 : Hid (R = if claE m.vars c = 0 then (failsP m.vars (l.map (heldP m.vars)) (heldP m.vars c), 0) else (false, claE m.vars c)) := by show _ = _; rw [HR2.out, if_pos rfl]
      clear HR2 HEL HLO
      go_wp2_with fail
      refine (cla_check m.vars c _ _ _ (HMA.out _ HB2.out).1 (HU.out _ HB2.out)).mono ?_
      rintro e w3 ⟨rfl, hb3⟩
      have HB3 : Hid (Below w.heap.size w w3) := HB2.out.trans (hb3.mono HB2.out.size)
      have l3 : w.heap.size < w3.heap.size := Nat.lt_of_lt_of_le l2 hb3.size
      have i0 := (hb3.cell (p := ⟨w.heap.size, 0, none⟩) l2).trans j0
      have i1 := (hb3.cell (p := ⟨w.heap.size, 1, none⟩) l2).trans j1
      have i2 := (hb3.cell (p := ⟨w.heap.size, 2, none⟩) l2).trans j2
      have i3 := (hb3.cell (p := ⟨w.heap.size, 3, none⟩) l2).trans j3
      clear hb3 j0 j1 j2 j3 l2
      obtain ⟨ec, hec⟩ : ∃ ec, claE m.vars c = ec := ⟨_, rfl⟩
      rw [hec] at HR3 ⊢
      clear hec
      by_cases hc0 : ec = 0
      · subst hc0
        obtain ⟨L, hLL⟩ : ∃ L, l.map (heldP m.vars) = L := ⟨_, rfl⟩
        have HLL : Hid (l.map (heldP m.vars) = L) := hLL
        have HLT : Hid (∀ z ∈ L, z < 2 ^ 36) := by rw [← hLL]; exact helds_lt m HM.out l
        rw [hLL] at HR3
        have HRF : Hid (R = (failsP m.vars L (heldP m.vars c), 0)) := by show _ = _; rw [HR3.out, if_pos rfl]
        clear hLL
        have HTO : Hid (∀ Y, Below w3.heap.size w3 Y → Below w.heap.size w Y) := fun Y hY => HB3.out.trans (hY.mono HB3.out.size)
        have HPH : Hid (∀ Y, Below w3.heap.size w3 Y → Calls Tryz.prog 30 #[.agg #[.slice a1 m.vars.length c1, .slice a2 m.cons.length c2, .int .i64 m.goal, .int .i64 m.var], .slice a4 l.length c4] Y fun e w' => ∃ x, e = .returned x ∧ PArg w' x L ∧ Below Y.heap.size Y w') := fun Y hY =>
          (pheld_any m HM.out l HL6.out _ _ _ Y (HMA.out _ (HTO.out _ hY)) (HL.out _ (HTO.out _ hY))).mono fun e w' ⟨x, h1, h2, h3⟩ => ⟨x, h1, own_parts (by rw [← HLL.out, List.length_map]; exact h2) HLT.out, h3⟩
        have HHE : Hid (∀ Y, Below w3.heap.size w3 Y → Calls Tryz.prog 26 #[.slice a1 m.vars.length c1, .slice a3 (List.length c) c3] Y fun e w' => e = .returned (.int .u64 ((heldP m.vars c : Nat) : Int)) ∧ Below Y.heap.size Y w') := fun Y hY =>
          held_any m.vars (vars_all m HM.out) c _ _ Y (HMA.out _ (HTO.out _ hY)).1 (HU.out _ (HTO.out _ hY))
        have HFA : Hid (∀ (Y : World) (pv : Value), Below w3.heap.size w3 Y → PArg Y pv L → Calls Tryz.prog 29 #[.slice a1 m.vars.length c1, pv, .int .u64 ((heldP m.vars c : Nat) : Int)] Y fun e w' => e = .returned (.bool (failsP m.vars L (heldP m.vars c))) ∧ Below Y.heap.size Y w') := fun Y pv hY hp =>
          fails_any m.vars (vars_all m HM.out) (checkM_vars m HM.out).1 _ _ (held_lt m HM.out c) _ pv Y (HMA.out _ (HTO.out _ hY)).1 hp (HT.out _ (HTO.out _ hY))
        clear HR3
        go_wp2_with fail
        go_region_held3 (fun w' => Below w3.heap.size w3 w' ∧ w'.cell? ⟨w.heap.size, 0, none⟩ = some (.slice a1 m.vars.length c1) ∧ w'.cell? ⟨w.heap.size, 1, none⟩ = some (.slice a2 m.cons.length c2) ∧ w'.cell? ⟨w.heap.size, 2, none⟩ = some (.int .i64 m.goal) ∧ w'.cell? ⟨w.heap.size, 3, none⟩ = some (.int .i64 m.var))
          ((refine (fun (hB : Below w3.heap.size w3 _) => ⟨hB, (hB.cell (p := ⟨w.heap.size, 0, none⟩) l3).trans i0, (hB.cell (p := ⟨w.heap.size, 1, none⟩) l3).trans i1, (hB.cell (p := ⟨w.heap.size, 2, none⟩) l3).trans i2, (hB.cell (p := ⟨w.heap.size, 3, none⟩) l3).trans i3⟩ : Below w3.heap.size w3 _ → _) ?_; first | exact (Below.refl _ _).drew | exact fen_call (by assumption) hbq))
          (first
            | (go_at_call 30; refine (HPH.out _ (show Below w3.heap.size w3 _ ∧ _ by assumption).1).mono ?_; rintro e w4 ⟨x, rfl, hp4, hbq⟩; have HP4 : Hid (PArg w4 x L) := hp4; obtain ⟨ap, cp, rfl, _, _⟩ := hp4; have hB4 := fen_call (by assumption) hbq)
            | (go_at_call 26; refine (HHE.out _ (show Below w3.heap.size w3 _ ∧ _ by assumption).1).mono ?_; rintro e w5 ⟨rfl, hbq⟩; have HP5 : Hid (PArg w5 _ L) := PArg.below hbq HP4.out; have hB5 := fen_call (by assumption) hbq)
            | (go_at_call 29; refine (HFA.out _ _ (show Below w3.heap.size w3 _ ∧ _ by assumption).1 HP5.out).mono ?_; rintro e w6 ⟨rfl, hbq⟩; have hB6 := fen_call (by assumption) hbq))
        have HB6 : Hid (Below w.heap.size w w6) := HTO.out _ hB6
        go_wp2
        go_ret2
        exact ⟨by rw [HRF.out]; rfl, HB6.out⟩
      · have HRF : Hid (R = (false, ec)) := by show _ = _; rw [HR3.out, if_neg hc0]
        have he2 : (ec != 0) = true := by simpa using hc0
        clear hc0 HR3
        go_wp2
        go_ret2
        exact ⟨by rw [HRF.out]; rfl, HB3.out⟩
    · have HRF : Hid (R = (false, el)) := by show _ = _; rw [HR2.out, if_neg hl0]
      have he2 : (el != 0) = true := by simpa using hl0
      clear hl0 HR2
      go_wp2
      go_ret2
      exact ⟨by rw [HRF.out]; rfl, HB2.out⟩
  · have HRF : Hid (R = (false, er)) := by
      show _ = _
      rw [← HR.out]
      unfold punitA
      rw [HER.out, if_neg he]
    have he2 : (er != 0) = true := by simpa using he
    clear he
    go_wp2
    go_ret2
    exact ⟨by rw [HRF.out]; rfl, HB1.out⟩
end Go.Proofs.YtijohkhpigjbkadGreatDoor
/-
  MEMORY: steps of proofs. WALK: package proof: checkAll.
-/
namespace Go.Proofs.YtijohkhpigjbkadGreatDoor
open Go.RowKit

/-- A list of steps. -/
def StArg (w : World) (v : Value) (l : List MStep) : Prop :=
  ∃ a c, v = .slice a l.length c ∧ (l.length ≤ c ∧ c ≤ maxLen) ∧ ∀ (i : Nat) (t : MStep), l[i]? = some t → ∃ b off x, a = some ⟨b, off, none⟩ ∧ b < w.heap.size ∧
    w.cell? ⟨b, off + i * 3, none⟩ = some (.int .i64 t.kind) ∧ w.cell? ⟨b, off + i * 3 + 1, none⟩ = some (.int .i64 t.con) ∧ w.cell? ⟨b, off + i * 3 + 2, none⟩ = some x ∧ LArg w x t.cla
theorem StArg.below {w w' : World} {v : Value} {l : List MStep} (hb : Below w.heap.size w w') (h : StArg w v l) : StArg w' v l := by
  obtain ⟨a, c, hv, hm, hr⟩ := h
  refine ⟨a, c, hv, hm, fun i z hz => ?_⟩
  obtain ⟨b, off, x, ha, hlt, c0, c1, c2, hx⟩ := hr i z hz
  exact ⟨b, off, x, ha, Nat.lt_of_lt_of_le hlt hb.size, (hb.cell (p := ⟨b, off + i * 3, none⟩) hlt).trans c0, (hb.cell (p := ⟨b, off + i * 3 + 1, none⟩) hlt).trans c1, (hb.cell (p := ⟨b, off + i * 3 + 2, none⟩) hlt).trans c2, LArg.below hb hx⟩
/-- Is the constraint of a step there? -/
def thereB (n : Int) (s : MStep) : Bool := !(decide (s.kind = 1) && (decide (s.con < 0) || decide (n ≤ s.con)))
def stepsE (m : Mod) (given : List Cla) (l : List MStep) : Int :=
  if checkM m = 0 then (if 6000 < l.length then 2 else if clasE m.vars given = 0 then
    (if firstE (l.map fun s => claE m.vars s.cla) = 0 then (if l.all (thereB m.cons.length) then 0 else 5) else firstE (l.map fun s => claE m.vars s.cla)) else clasE m.vars given) else checkM m
theorem stepsE_ok (m : Mod) (given : List Cla) (l : List MStep) (h : stepsE m given l = 0) : checkM m = 0 ∧ l.length ≤ 6000 ∧ clasE m.vars given = 0 ∧ (∀ s ∈ l, claE m.vars s.cla = 0) ∧ ∀ s ∈ l, s.kind = 1 → 0 ≤ s.con ∧ s.con < (m.cons.length : Int) := by
  unfold stepsE at h
  by_cases h0 : checkM m = 0
  · rw [if_pos h0] at h
    by_cases h1 : 6000 < l.length
    · rw [if_pos h1] at h; cases h
    · rw [if_neg h1] at h
      by_cases h2 : clasE m.vars given = 0
      · rw [if_pos h2] at h
        by_cases h3 : firstE (l.map fun s => claE m.vars s.cla) = 0
        · rw [if_pos h3] at h
          cases h4 : l.all (thereB m.cons.length)
          · rw [h4] at h; cases h
          · refine ⟨h0, by omega, h2, fun s hs => firstE_all _ h3 _ (List.mem_map.2 ⟨s, hs, rfl⟩), fun s hs hk => ?_⟩
            have := List.all_eq_true.1 h4 s hs
            unfold thereB at this
            simp [hk] at this
            omega
        · rw [if_neg h3] at h; exact absurd h h3
      · rw [if_neg h2] at h; exact absurd h h2
  · rw [if_neg h0] at h; exact absurd h h0

set_option maxHeartbeats 3200000 in
set_option maxRecDepth 100000 in
theorem pchecks_any (m : Mod) (given : List Cla) (l : List MStep) (vs cs ul u : Value) (w : World) (hma : MArg w vs cs m) (hul : LLArg w ul given) (hu : StArg w u l) :
    Calls Tryz.prog 41 #[modV vs cs m, ul, u] w fun e w' => e = .returned (.int .i64 (stepsE m given l)) ∧ Below w.heap.size w w' := by
  have HMA : Hid (∀ w', Below w.heap.size w w' → MArg w' vs cs m) := fun w' h => MArg.below h hma
  have HL : Hid (∀ w', Below w.heap.size w w' → LLArg w' ul given) := fun w' h => LLArg.below h hul
  obtain ⟨R, hR⟩ : ∃ R, stepsE m given l = R := ⟨_, rfl⟩
  have HR : Hid (stepsE m given l = R) := hR
  rw [hR]
  obtain ⟨⟨a1, c1, rfl, _, _⟩, ⟨a2, c2, rfl, _, _⟩⟩ := hma
  obtain ⟨a3, c3, rfl, hm3, hr3⟩ := hu
  have HST : Hid (∀ (i : Nat) (t : MStep), l[i]? = some t → ∃ b off x, a3 = some ⟨b, off, none⟩ ∧ b < w.heap.size ∧
    w.cell? ⟨b, off + i * 3, none⟩ = some (.int .i64 t.kind) ∧ w.cell? ⟨b, off + i * 3 + 1, none⟩ = some (.int .i64 t.con) ∧ w.cell? ⟨b, off + i * 3 + 2, none⟩ = some x ∧ LArg w x t.cla) := hr3
  unfold maxLen at hm3
  obtain ⟨hm31, hm3⟩ := hm3
  obtain ⟨a4, c4, rfl, _, _⟩ := hul
  unfold modV
  clear hR hr3
  go_enter Tryz.func41, Tryz.ntmps41
  go_wp2_with fail
  refine (check_model m _ _ _ (HMA.out _ (below_alloc _ _))).mono ?_
  rintro e w1 ⟨rfl, hb1⟩
  have HB1 : Hid (Below w.heap.size w w1) := (below_alloc _ _).trans (hb1.mono (by simp))
  have l1 : w.heap.size < w1.heap.size := by have := hb1.size; simp at this; omega
  have k0 : w1.cell? ⟨w.heap.size, 0, none⟩ = some (.slice a1 m.vars.length c1) := (hb1.cell (by simp)).trans (World.cell?_alloc_at _ _ _ 0 (by simp))
  have k1 : w1.cell? ⟨w.heap.size, 1, none⟩ = some (.slice a2 m.cons.length c2) := (hb1.cell (by simp)).trans (World.cell?_alloc_at _ _ _ 1 (by simp))
  clear hb1
  obtain ⟨er, her⟩ : ∃ er, checkM m = er := ⟨_, rfl⟩
  have HER : Hid (checkM m = er) := her
  rw [her]
  clear her
  by_cases he : er = 0
  · subst he
    by_cases h60 : 6000 < l.length
    · have HRF : Hid (R = 2) := by show _ = _; rw [← HR.out]; unfold stepsE; rw [if_pos HER.out, if_pos h60]
      go_wp2
      go_ret
      exact ⟨ret_int HRF.out.symm, HB1.out⟩
    · have HR2 : Hid (R = if clasE m.vars given = 0 then (if firstE (l.map fun s => claE m.vars s.cla) = 0 then (if l.all (thereB m.cons.length) then 0 else 5) else firstE (l.map fun s => claE m.vars s.cla)) else clasE m.vars given) := by
        show _ = _
        rw [← HR.out]
        unfold stepsE
        rw [if_pos HER.out, if_neg h60]
      clear HR
      go_wp2_with fail
      refine (clas_check m.vars given _ _ _ (HMA.out _ HB1.out).1 (HL.out _ HB1.out)).mono ?_
      rintro e w2 ⟨rfl, hb2⟩
      have HB2 : Hid (Below w.heap.size w w2) := HB1.out.trans (hb2.mono HB1.out.size)
      have HL2 : Hid (w.heap.size < w2.heap.size) := Nat.lt_of_lt_of_le l1 hb2.size
      have HJ0 : Hid (w2.cell? ⟨w.heap.size, 0, none⟩ = some (.slice a1 m.vars.length c1)) := (hb2.cell (p := ⟨w.heap.size, 0, none⟩) l1).trans k0
      have HJ1 : Hid (w2.cell? ⟨w.heap.size, 1, none⟩ = some (.slice a2 m.cons.length c2)) := (hb2.cell (p := ⟨w.heap.size, 1, none⟩) l1).trans k1
      clear hb2 k0 k1 l1
      obtain ⟨el, hel⟩ : ∃ el, clasE m.vars given = el := ⟨_, rfl⟩
      rw [hel] at HR2 ⊢
      clear hel
      by_cases hl0 : el = 0
      · subst hl0
        have HR3 : Hid (R = if firstE (l.map fun s => claE m.vars s.cla) = 0 then (if l.all (thereB m.cons.length) then 0 else 5) else firstE (l.map fun s => claE m.vars s.cla)) := by show _ = _; rw [HR2.out, if_pos rfl]
        clear HR2
        go_wp2_with fail
        go_loopw [31] (fun i wr => ∃ k : Nat, k ≤ l.length ∧ i = .int .i64 k ∧ Hid (firstE ((l.map fun s => claE m.vars s.cla).take k) = 0) ∧ Below w2.heap.size w2 wr) (fun i _ => l.length - (intOf i).toNat)
        case atStart => exact ⟨0, by omega, rfl, rfl, Below.refl _ _⟩
        case round =>
          obtain ⟨k, hk, rfl, hall, hbw⟩ := hrel
          have HBW : Hid (Below w2.heap.size w2 wr) := hbw
          have HBN : Hid (Below w.heap.size w wr) := HB2.out.trans (hbw.mono HB2.out.size)
          have i0 := (hbw.cell (p := ⟨w.heap.size, 0, none⟩) HL2.out).trans HJ0.out
          have lr : w.heap.size < wr.heap.size := Nat.lt_of_lt_of_le HL2.out hbw.size
          clear hbw
          by_cases hlt : k < l.length
          · obtain ⟨t, ht⟩ : ∃ t, l[k]? = some t := ⟨l[k], by simp [hlt]⟩
            obtain ⟨b, off, x, hax, hb, q0, q1, q2, hxa⟩ := HST.out k t ht
            subst hax
            have hc0 := (HBN.out.cell (p := ⟨b, off + k * 3, none⟩) hb).trans q0
            have hc1 := (HBN.out.cell (p := ⟨b, off + k * 3 + 1, none⟩) hb).trans q1
            have hc2 := (HBN.out.cell (p := ⟨b, off + k * 3 + 2, none⟩) hb).trans q2
            have HXA : Hid (∀ w', Below w.heap.size w w' → LArg w' x t.cla) := fun w' h => LArg.below h hxa
            obtain ⟨ax, cx, rfl, _, _⟩ := hxa
            obtain ⟨er, her⟩ : ∃ er, claE m.vars t.cla = er := ⟨_, rfl⟩
            have HE1 : Hid (claE m.vars t.cla = er) := her
            have HZ : Hid ((l.map fun s => claE m.vars s.cla)[k]? = some er) := by show _ = _; rw [List.getElem?_map, ht, ← her]; rfl
            clear ht q0 q1 q2 her hb
            go_wp2_with fail
            refine (cla_check m.vars t.cla _ _ _ (HMA.out _ (HBN.out.alloc HBN.out.size _)).1 (HXA.out _ (HBN.out.alloc HBN.out.size _))).mono ?_
            rintro e w3 ⟨rfl, hb3⟩
            rw [HE1.out]
            have HB3 : Hid (Below w2.heap.size w2 w3) := (HBW.out.alloc HBW.out.size _).trans (hb3.mono (by have := HBW.out.size; simp; omega))
            clear hb3 hc0 hc1 hc2 i0
            by_cases he : er = 0
            · subst he
              have HN : Hid (firstE ((l.map fun s => claE m.vars s.cla).take (k + 1)) = 0) := firstE_step _ k hall.out HZ.out
              go_wp2
              go_roundw
              case rel => exact ⟨k + 1, by omega, by go_num, HN, HB3.out⟩
              case measure => simp [intOf]; omega
            · have HF := firstE_hit _ k er hall.out HZ.out he
              have HRF : Hid (R = er) := by show _ = _; rw [HR3.out, HF, if_neg he]
              have he2 : (er != 0) = true := by simpa using he
              have HB4 : Hid (Below w.heap.size w w3) := HB2.out.trans (HB3.out.mono HB2.out.size)
              clear hall he HF
              go_wp2
              go_ret
              exact ⟨ret_int HRF.out.symm, HB4.out⟩
          · have hke : k = l.length := by omega
            have HR4 : Hid (R = if l.all (thereB m.cons.length) then 0 else 5) := by
              show _ = _
              have h1 := hall.out
              rw [hke, List.take_of_length_le (by simp)] at h1
              rw [HR3.out, if_pos h1]
            have HJ0' : Hid (wr.cell? ⟨w.heap.size, 0, none⟩ = some (.slice a1 m.vars.length c1)) := i0
            have HJ1' : Hid (wr.cell? ⟨w.heap.size, 1, none⟩ = some (.slice a2 m.cons.length c2)) := (HBW.out.cell (p := ⟨w.heap.size, 1, none⟩) HL2.out).trans HJ1.out
            have HLR : Hid (w.heap.size < wr.heap.size) := lr
            obtain ⟨W, hW⟩ : ∃ W : World, W = wr := ⟨_, rfl⟩
            rw [← hW] at HJ0' HJ1' HLR HBN ⊢
            clear hall hke i0 HR3 HJ0 HJ1 lr HBW hW
            go_wp2_with fail
            go_loopw [46] (fun i wx => ∃ k : Nat, k ≤ l.length ∧ i = .int .i64 k ∧ Hid ((l.take k).all (thereB m.cons.length) = true) ∧ Below W.heap.size W wx) (fun i _ => l.length - (intOf i).toNat)
            case atStart => exact ⟨0, by omega, rfl, rfl, Below.refl _ _⟩
            case round =>
              obtain ⟨k, hk, rfl, hall, hbw⟩ := hrel
              have HBW : Hid (Below W.heap.size W wr) := hbw
              have HBM : Hid (Below w.heap.size w wr) := HBN.out.trans (hbw.mono HBN.out.size)
              have i1 := (hbw.cell (p := ⟨w.heap.size, 1, none⟩) HLR.out).trans HJ1'.out
              have lr : w.heap.size < wr.heap.size := Nat.lt_of_lt_of_le HLR.out hbw.size
              clear hbw
              by_cases hlt : k < l.length
              · obtain ⟨t, ht⟩ : ∃ t, l[k]? = some t := ⟨l[k], by simp [hlt]⟩
                obtain ⟨b, off, x, hax, hb, q0, q1, q2, hxa⟩ := HST.out k t ht
                subst hax
                have hc0 := (HBM.out.cell (p := ⟨b, off + k * 3, none⟩) hb).trans q0
                have hc1 := (HBM.out.cell (p := ⟨b, off + k * 3 + 1, none⟩) hb).trans q1
                have hc2 := (HBM.out.cell (p := ⟨b, off + k * 3 + 2, none⟩) hb).trans q2
                obtain ⟨ax, cx, rfl, _, _⟩ := hxa
                have HT : Hid (l[k]? = some t) := ht
                have HB3 : Hid (∀ o, Below W.heap.size W (wr.alloc o)) := fun o => HBW.out.alloc HBW.out.size _
                have HN1 : Hid (thereB m.cons.length t = true → (l.take (k + 1)).all (thereB m.cons.length) = true) := fun hq => by rw [List.take_add_one, HT.out, List.all_append, hall.out]; simp [hq]
                have HN2 : Hid (thereB m.cons.length t = false → R = 5) := fun hq => by
                  have h5 : l.all (thereB m.cons.length) = false := by
                    cases h6 : l.all (thereB m.cons.length)
                    · rfl
                    · rw [List.all_eq_true.1 h6 t (List.mem_of_getElem? HT.out)] at hq; cases hq
                  rw [HR4.out, h5]; rfl
                clear ht q0 q1 q2 hb hall
                by_cases hk1 : t.kind = 1
                · have g1 : (t.kind == 1) = true := by simpa using hk1
                  by_cases hn0 : t.con < 0
                  · have HRF : Hid (R = 5) := HN2.out (by unfold thereB; simp [hk1, hn0])
                    clear hk1
                    go_wp2
                    go_ret
                    exact ⟨ret_int HRF.out.symm, HBM.out.alloc HBM.out.size _⟩
                  · by_cases hn1 : (m.cons.length : Int) ≤ t.con
                    · have HRF : Hid (R = 5) := HN2.out (by unfold thereB; simp [hk1, hn1])
                      clear hk1
                      go_wp2
                      go_ret
                      exact ⟨ret_int HRF.out.symm, HBM.out.alloc HBM.out.size _⟩
                    · have HN : Hid ((l.take (k + 1)).all (thereB m.cons.length) = true) := HN1.out (by unfold thereB; simp [hk1]; omega)
                      clear hk1 HN1 HN2
                      go_wp2
                      go_roundw
                      case rel => exact ⟨k + 1, by omega, by go_num, HN, HB3.out _⟩
                      case measure => simp [intOf]; omega
                · have g1 : (t.kind == 1) = false := by simpa using hk1
                  have HN : Hid ((l.take (k + 1)).all (thereB m.cons.length) = true) := HN1.out (by unfold thereB; simp [hk1])
                  clear hk1 HN1 HN2
                  go_wp2
                  go_roundw
                  case rel => exact ⟨k + 1, by omega, by go_num, HN, HB3.out _⟩
                  case measure => simp [intOf]; omega
              · have hke : k = l.length := by omega
                have HRF : Hid (R = 0) := by
                  show _ = _
                  have h1 := hall.out
                  rw [hke, List.take_of_length_le (Nat.le_refl _)] at h1
                  rw [HR4.out, h1]; rfl
                clear hall hke
                go_wp2
                go_ret
                exact ⟨ret_int HRF.out.symm, HBM.out⟩
      · have HRF : Hid (R = el) := by show _ = _; rw [HR2.out, if_neg hl0]
        have he2 : (el != 0) = true := by simpa using hl0
        clear hl0 HR2
        go_wp2
        go_ret
        exact ⟨ret_int HRF.out.symm, HB2.out⟩
  · have HRF : Hid (R = er) := by
      show _ = _
      rw [← HR.out]
      unfold stepsE
      rw [HER.out, if_neg he]
    have he2 : (er != 0) = true := by simpa using he
    clear he
    go_wp2
    go_ret
    exact ⟨ret_int HRF.out.symm, HB1.out⟩
end Go.Proofs.YtijohkhpigjbkadGreatDoor
/-
  MEMORY: lists of parts.
-/
namespace Go.Proofs.YtijohkhpigjbkadGreatDoor
open Go.RowKit

/-- Lists of parts, one for each constraint. -/
def PPArg (w : World) (v : Value) (pt : List (List Nat)) : Prop :=
  ∃ a c, v = .slice a pt.length c ∧ (pt.length ≤ c ∧ c ≤ maxLen) ∧ ∀ (i : Nat) (pts : List Nat), pt[i]? = some pts → ∃ b off x, a = some ⟨b, off, none⟩ ∧ b < w.heap.size ∧ w.cell? ⟨b, off + i, none⟩ = some x ∧ PArg w x pts
theorem PPArg.below {w w' : World} {v : Value} {pt : List (List Nat)} (hb : Below w.heap.size w w') (h : PPArg w v pt) : PPArg w' v pt := by
  obtain ⟨a, c, hv, hm, hr⟩ := h
  refine ⟨a, c, hv, hm, fun i z hz => ?_⟩
  obtain ⟨b, off, x, ha, hlt, hc, hx⟩ := hr i z hz
  exact ⟨b, off, x, ha, Nat.lt_of_lt_of_le hlt hb.size, (hb.cell (p := ⟨b, off + i, none⟩) hlt).trans hc, PArg.below hb hx⟩
end Go.Proofs.YtijohkhpigjbkadGreatDoor
/-
  A walk along a proof: how it lies in memory. WALK: package proof: its closure.
-/
namespace Go.Proofs.YtijohkhpigjbkadGreatDoor
open Go.RowKit

/-- A walk: the model, its constraints' points, what stands ahead. -/
def WalkS (N bm bp ba : Nat) (m : Mod) (vs cs pv : Value) (ahead : List Nat) (w : World) : Prop :=
  (N ≤ ba ∧ N ≤ w.heap.size) ∧
  Old N w (fun u => MArg u vs cs m ∧ PPArg u pv (m.cons.map (pointsP m.vars)) ∧ u.cell? ⟨bm, 0, none⟩ = some vs ∧ u.cell? ⟨bp, 0, none⟩ = some pv ∧ TabT u) ∧
  (∀ z ∈ ahead, z < 2 ^ 36) ∧
  ∃ av, w.ownsRow N 55 1 (.slice (some ⟨ba, 0, none⟩) 1 1) 1 [av] ∧ w.ownsRow N 58 1 av ahead.length (u64s ahead) ∧ av.ownBlock ≠ some ba
section
variable {N bm bp ba : Nat} {m : Mod} {vs cs pv : Value} {ahead : List Nat} {w w' : World}
theorem WalkS.below (h : WalkS N bm bp ba m vs cs pv ahead w) (hb : Below w.heap.size w w') : WalkS N bm bp ba m vs cs pv ahead w' := by
  obtain ⟨⟨h1, h2⟩, h3, h4, av, h5, h6, h7⟩ := h
  exact ⟨⟨h1, Nat.le_trans h2 hb.size⟩, h3.below (hb.mono h2), h4, av, own_below h5 hb, own_below h6 hb, h7⟩
theorem WalkS.old (h : WalkS N bm bp ba m vs cs pv ahead w) : MArg w vs cs m ∧ PPArg w pv (m.cons.map (pointsP m.vars)) ∧ w.cell? ⟨bm, 0, none⟩ = some vs ∧ w.cell? ⟨bp, 0, none⟩ = some pv ∧ TabT w ∧ bm < w.heap.size ∧ bp < w.heap.size := by
  obtain ⟨_, ⟨w0, g0, ⟨g1, g2, g3, g4, g5⟩, gb⟩, _⟩ := h
  have l1 := World.block_lt_of_cell? w0 _ g3
  have l2 := World.block_lt_of_cell? w0 _ g4
  have hs := gb.size
  simp only at l1 l2
  exact ⟨MArg.below gb g1, PPArg.below gb g2, (gb.cell (p := ⟨bm, 0, none⟩) l1).trans g3, (gb.cell (p := ⟨bp, 0, none⟩) l2).trans g4, g5.below gb, by omega, by omega⟩
theorem WalkS.put {z : Nat} {v3 av : Value} {w2 : World} (h : WalkS N bm bp ba m vs cs pv ahead w) (hz : z < 2 ^ 36) (ho : w.ownsRow N 55 1 (.slice (some ⟨ba, 0, none⟩) 1 1) 1 [av]) (hr : w.ownsRow N 58 1 av ahead.length (u64s ahead)) (hne : av.ownBlock ≠ some ba)
    (hw : w2.ownsRow N 58 1 v3 (ahead ++ [z]).length (u64s (ahead ++ [z]))) (hg : w.grownBy w2 av.ownBlock) :
    WalkS N bm bp ba m vs cs pv (ahead ++ [z]) (w2.setCell ⟨ba, 0, none⟩ v3) ∧ Below N w (w2.setCell ⟨ba, 0, none⟩ v3) := by
  obtain ⟨⟨h1, h2⟩, h3, h4, _⟩ := h
  have hb1 : Below N w w2 := (Below.refl _ _).grown hg h2 (fun k hk => (hr.lt k hk).1)
  have hb : Below N w (w2.setCell ⟨ba, 0, none⟩ v3) := hb1.setCell h1 _
  have hba : ba < w.heap.size := (ho.lt ba rfl).2
  have h6 : w2.ownsRow N 55 1 (.slice (some ⟨ba, 0, none⟩) 1 1) 1 [av] := ho.kept hg (Or.inr fun he => hne he.symm)
  have hvb : v3.ownBlock ≠ some ba := by
    intro he
    rcases hw.2 with ⟨hq, _⟩ | ⟨g, cap, cur, hq, _, hh, _⟩
    · rw [hq] at he; cases he
    · rw [hq] at he
      cases he
      rcases h6.2 with ⟨hq2, _⟩ | ⟨g2, cap2, cur2, hq2, _, hh2, _⟩
      · cases hq2
      · cases hq2
        rw [hh] at hh2
        injection hh2 with h9
        injection h9 with _ h8
        exact absurd h8 (by decide)
  refine ⟨⟨⟨h1, Nat.le_trans h2 hb.size⟩, h3.below hb, fun y hy => ?_, v3, (h6.stored 0 v3).1, own_at hw fun g hgg => ?_, hvb⟩, hb⟩
  · rcases List.mem_append.1 hy with h | h
    · exact h4 y h
    · rw [List.mem_singleton.1 h]; exact hz
  · exact Below.heap_setCell _ _ _ _ (fun h => hvb (by rw [hgg]; exact congrArg some h))
end

set_option maxHeartbeats 3200000 in
set_option maxRecDepth 100000 in
theorem wstep_any (N bm bp ba : Nat) (m : Mod) (vs cs pv u : Value) (ahead : List Nat) (s : MStep) (w : World) (hm : checkM m = 0) (hT : WalkS N bm bp ba m vs cs pv ahead w) (hu : LArg w u s.cla) (hk : s.kind = 1 → 0 ≤ s.con ∧ s.con < (m.cons.length : Int)) (hbud : ahead.length ≤ 100000) :
    Calls Tryz.prog 81 #[.agg #[.int .i64 s.kind, .int .i64 s.con, u], .pointer (some ⟨bm, 0, none⟩), .pointer (some ⟨bp, 0, none⟩), .pointer (some ⟨ba, 0, none⟩)] w fun e w' => e = .returned (.bool (rightP m ahead s)) ∧
      WalkS N bm bp ba m vs cs pv (ahead ++ [heldP m.vars s.cla]) w' ∧ Below N w w' := by
  have HM : Hid (checkM m = 0) := hm
  have HK : Hid (s.kind = 1 → 0 ≤ s.con ∧ s.con < (m.cons.length : Int)) := hk
  have HN : Hid (N ≤ w.heap.size) := hT.1.2
  obtain ⟨hma, hpp, d0, d1, htab, lm, lp⟩ := hT.old
  have HMA : Hid (∀ w', Below w.heap.size w w' → MArg w' vs cs m) := fun w' h => MArg.below h hma
  have HPP : Hid (∀ w', Below w.heap.size w w' → PPArg w' pv (m.cons.map (pointsP m.vars))) := fun w' h => PPArg.below h hpp
  have HTB : Hid (∀ w', Below w.heap.size w w' → TabT w') := fun w' h => htab.below h
  have HU : Hid (∀ w', Below w.heap.size w w' → LArg w' u s.cla) := fun w' h => LArg.below h hu
  have HT : Hid (∀ w', Below w.heap.size w w' → WalkS N bm bp ba m vs cs pv ahead w') := fun w' h => hT.below h
  obtain ⟨⟨a1, c1, rfl, _, _⟩, ⟨a2, c2, rfl, _, _⟩⟩ := hma
  obtain ⟨a3, c3, rfl, _, _⟩ := hu
  obtain ⟨a4, c4, hpv, hm4, _⟩ := hpp
  rw [List.length_map] at hpv hm4
  unfold maxLen at hm4
  obtain ⟨hm41, hm4⟩ := hm4
  subst hpv
  obtain ⟨i0, hi, hz0, hz1, hz2⟩ := info_parts Tryz.infoPart
  obtain ⟨h, hh⟩ : ∃ h, heldP m.vars s.cla = h := ⟨_, rfl⟩
  have HH : Hid (heldP m.vars s.cla = h) := hh
  have HH36 : Hid (h < 2 ^ 36) := by rw [← hh]; exact held_lt m hm s.cla
  obtain ⟨R, hR⟩ : ∃ R, rightP m ahead s = R := ⟨_, rfl⟩
  have HR : Hid (R = if s.kind = 1 then saysP m.vars (pointsP m.vars (m.cons.getD s.con.toNat noCon)) h else if s.kind = 2 ∧ s.con = 0 then failsP m.vars ahead h else false) := by show _ = _; rw [← hR, ← hh]; rfl
  rw [hR, hh]
  clear hT hm hk htab hh hR
  go_enter Tryz.func81, Tryz.ntmps81
  go_wp2_with fail
  refine (held_any m.vars (vars_all m HM.out) s.cla _ _ _ (HMA.out _ (below_alloc _ _)).1 (HU.out _ (below_alloc _ _))).mono ?_
  rintro e w1 ⟨rfl, hb1⟩
  rw [HH.out]
  have HB1 : Hid (Below w.heap.size w w1) := (below_alloc _ _).trans (hb1.mono (by simp))
  have l1 : w.heap.size < w1.heap.size := by have := hb1.size; simp at this; omega
  have k0 : w1.cell? ⟨w.heap.size, 0, none⟩ = some (.int .i64 s.kind) := (hb1.cell (by simp)).trans (World.cell?_alloc_at _ _ _ 0 (by simp))
  have k1 : w1.cell? ⟨w.heap.size, 1, none⟩ = some (.int .i64 s.con) := (hb1.cell (by simp)).trans (World.cell?_alloc_at _ _ _ 1 (by simp))
  have d0' := (HB1.out.cell (p := ⟨bm, 0, none⟩) lm).trans d0
  have d1' := (HB1.out.cell (p := ⟨bp, 0, none⟩) lp).trans d1
  have lm1 : bm < w1.heap.size := by omega
  have lp1 : bp < w1.heap.size := by omega
  clear hb1 d0 d1 lm lp
  go_upto_block 0 with (fail)
  go_cut [7] (fun v wx => v = .bool R ∧ Hid (Below w1.heap.size w1 wx))
  case first =>
    have HS2 : Hid (w1.heap.size = w1.heap.size) := rfl
    by_cases hk1 : s.kind = 1
    · obtain ⟨hn0, hn1⟩ := HK.out hk1
      obtain ⟨j, hj⟩ : ∃ j : Nat, s.con = (j : Int) := ⟨s.con.toNat, by omega⟩
      have hjl : j < m.cons.length := by omega
      obtain ⟨k, hkk⟩ : ∃ k, m.cons[j]? = some k := ⟨m.cons[j], by simp [hjl]⟩
      have HRF : Hid (R = saysP m.vars (pointsP m.vars k) h) := by
        show _ = _
        rw [HR.out, if_pos hk1, hj, Int.toNat_natCast, List.getD_eq_getElem?_getD, hkk]; rfl
      rw [hj] at k1
      have g1 : (s.kind == 1) = true := by simpa using hk1
      obtain ⟨a', c', hv', _, hrr⟩ := HPP.out w1 HB1.out
      obtain ⟨b4, o4, x, hax, hb4, hc4, hpx⟩ := hrr j (pointsP m.vars k) (by rw [List.getElem?_map, hkk]; rfl)
      have ha4 : a4 = some ⟨b4, o4, none⟩ := by injection hv' with e1; exact e1.trans hax
      clear hv' hrr hax
      subst ha4
      have HPX : Hid (∀ Y, Below w1.heap.size w1 Y → PArg Y x (pointsP m.vars k)) := fun Y hY => PArg.below hY hpx
      obtain ⟨ax, cx, rfl, _, _⟩ := hpx
      have HSA : Hid (∀ Y, Below w1.heap.size w1 Y → Calls Tryz.prog 24 #[.slice a1 m.vars.length c1, .slice ax (pointsP m.vars k).length cx, .int .u64 (h : Int)] Y fun e w' => e = .returned (.bool (saysP m.vars (pointsP m.vars k) h)) ∧ Below Y.heap.size Y w') := fun Y hY =>
        says_any m.vars (vars_all m HM.out) _ _ HH36.out _ _ Y (HMA.out _ (HB1.out.trans (hY.mono HB1.out.size))).1 (HPX.out _ hY)
      clear hk1 hkk hj hn0 hn1 HR
      go_wp2_with fail
      go_region_held3 (fun w' => Below w1.heap.size w1 w' ∧ w'.cell? ⟨bm, 0, none⟩ = some (.slice a1 m.vars.length c1) ∧ w'.cell? ⟨bp, 0, none⟩ = some (.slice (some ⟨b4, o4, none⟩) m.cons.length c4) ∧ w'.cell? ⟨w.heap.size, 1, none⟩ = some (.int .i64 (j : Int)) ∧ w'.cell? ⟨b4, o4 + j, none⟩ = some (.slice ax (pointsP m.vars k).length cx))
        ((refine (fun (hB : Below w1.heap.size w1 _) => ⟨hB, (hB.cell (p := ⟨bm, 0, none⟩) lm1).trans d0', (hB.cell (p := ⟨bp, 0, none⟩) lp1).trans d1', (hB.cell (p := ⟨w.heap.size, 1, none⟩) l1).trans k1, (hB.cell (p := ⟨b4, o4 + j, none⟩) hb4).trans hc4⟩ : Below w1.heap.size w1 _ → _) ?_; first | exact (Below.refl _ _).drew | exact fen_call (by assumption) hbq))
        (first
          | (go_at_call 24; refine (HSA.out _ (show Below w1.heap.size w1 _ ∧ _ by assumption).1).mono ?_; rintro e w5 ⟨rfl, hbq⟩; have hB5 := fen_call (by assumption) hbq))
      have HB5 : Hid (Below w1.heap.size w1 w5) := hB5
      go_wp2_with fail
      go_meet
      exact ⟨by rw [HRF.out], HB5⟩
    · have g1 : (s.kind == 1) = false := by simpa using hk1
      by_cases hk2 : s.kind = 2 ∧ s.con = 0
      · have HRF : Hid (R = failsP m.vars ahead h) := by show _ = _; rw [HR.out, if_neg hk1, if_pos hk2]
        have g2 : (s.kind == 2) = true := by simpa using hk2.1
        have g3 : (s.con == 0) = true := by simpa using hk2.2
        obtain ⟨⟨hNb, hNs⟩, _, h36, av, ho, hr, hne⟩ := HT.out w1 HB1.out
        have HPA : Hid (PArg w1 av ahead) := own_parts hr h36
        obtain ⟨aa, ca, rfl⟩ := own_form hr
        have hca : w1.cell? ⟨ba, 0, none⟩ = some (.slice aa ahead.length ca) := ho.cellAt 0 (by omega)
        have lba : ba < w1.heap.size := (ho.lt ba rfl).2
        clear hk1 hk2 HR ho hr hne h36
        go_wp2_with fail
        refine (fails_any m.vars (vars_all m HM.out) (checkM_vars m HM.out).1 ahead h HH36.out _ _ _ (HMA.out _ HB1.out).1 HPA.out (HTB.out _ HB1.out)).mono ?_
        rintro e w5 ⟨rfl, hb5⟩
        have HB5 : Hid (Below w1.heap.size w1 w5) := hb5
        clear hb5
        go_wp2_with fail
        go_meet
        exact ⟨by rw [HRF.out], HB5⟩
      · have HRF : Hid (R = false) := by show _ = _; rw [HR.out, if_neg hk1, if_neg hk2]
        by_cases hk3 : s.kind = 2
        · have g2 : (s.kind == 2) = true := by simpa using hk3
          have g3 : (s.con == 0) = false := by
            have : s.con ≠ 0 := fun h0 => hk2 ⟨hk3, h0⟩
            simpa using this
          clear hk1 hk2 hk3 HR
          go_wp2_with fail
          go_meet
          exact ⟨by rw [HRF.out], Below.refl _ _⟩
        · have g2 : (s.kind == 2) = false := by simpa using hk3
          clear hk1 hk2 hk3 HR
          go_wp2_with fail
          go_meet
          exact ⟨by rw [HRF.out], Below.refl _ _⟩
  case rest =>
    obtain ⟨hv, hbc⟩ := hcut
    subst hv
    have HBC : Hid (Below w.heap.size w wc) := HB1.out.trans (hbc.out.mono HB1.out.size)
    have HTC : Hid (WalkS N bm bp ba m (.slice a1 m.vars.length c1) (.slice a2 m.cons.length c2) (.slice a4 m.cons.length c4) ahead wc) := HT.out wc HBC.out
    obtain ⟨⟨hNb, hNs⟩, _, _, av, ho, hr, hne⟩ := HTC.out
    obtain ⟨aa, ca, rfl⟩ := own_form hr
    have hca : wc.cell? ⟨ba, 0, none⟩ = some (.slice aa ahead.length ca) := ho.cellAt 0 (by omega)
    have lba : ba < wc.heap.size := (ho.lt ba rfl).2
    clear d0' d1' k0 k1 l1 lm1 lp1
    go_wp2_with (at_builtin; refine wpList_append_own _ rfl _ _ 55 rfl N 58 i0 (.int .u64 0) 1 8 Tryz.underlying55 hi hz0 hz1 hz2 rfl (by decide) _ _ _ rfl (hr.alloc _) ⟨wc.heap.size, 0, none⟩ 1 1 [.int .u64 (h : Int)] rfl rfl ?c1 ?c2 ?c3 ?c4 ?c5 ?_)
    case c1 => exact part_laid wc h
    case c2 => intro u hu; rcases List.mem_singleton.1 hu with rfl; rfl
    case c3 => unfold maxLen; omega
    case c4 => omega
    case c5 => simp; omega
    intro v3 w3 hown3 hgrow _
    have hown4 : w3.ownsRow N 58 1 v3 (ahead ++ [h]).length (u64s (ahead ++ [h])) := by
      unfold u64s
      rw [List.length_append, List.map_append]; exact hown3
    have HPUT := (HTC.out.below (below_alloc _ _)).put HH36.out (ho.alloc _) (hr.alloc _) hne hown4 hgrow
    have HP : Hid (WalkS N bm bp ba m (.slice a1 m.vars.length c1) (.slice a2 m.cons.length c2) (.slice a4 m.cons.length c4) (ahead ++ [h]) (w3.setCell ⟨ba, 0, none⟩ v3)) := HPUT.1
    have HB4 : Hid (Below N w (w3.setCell ⟨ba, 0, none⟩ v3)) := (HBC.out.mono HN.out).trans (((Below.refl _ _).alloc hNs _).trans HPUT.2)
    have ht3 : w3.ownsRow N 55 1 (.slice (some ⟨ba, 0, none⟩) 1 1) 1 [.slice aa ahead.length ca] := (ho.alloc _).kept hgrow (Or.inr (fun h => hne h.symm))
    have hcB : w3.cell? ⟨ba, 0, none⟩ = some (.slice aa ahead.length ca) := ht3.cellAt 0 (by omega)
    have hfB : w3.frozen? ⟨ba, 0, none⟩ = false := ht3.frozenAt 0
    obtain ⟨av', cv', rfl⟩ := own_form hown4
    rw [show (ahead ++ [h]).length = ahead.length + 1 by simp] at HP HB4
    clear hown3 hgrow hown4 hr ho hca ht3 HPUT hne
    go_wp2
    go_ret
    exact ⟨rfl, HP.out, HB4.out⟩
end Go.Proofs.YtijohkhpigjbkadGreatDoor
