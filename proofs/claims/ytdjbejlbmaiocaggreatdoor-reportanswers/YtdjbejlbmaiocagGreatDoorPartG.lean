/-
  PART 7 of what the proof leans on (PrfA, PrfB, PrfC, PrfD, EnoD, PPa, PrfE, PrfF, PrfG, EnoE, FolA).
-/
import Derived.Test.YtdjbejlbmaiocagGreatDoorPartF
import Derived.Deep.CutBlock
import Derived.Deep.DeepCutAuto
/-
  WALKS: package proof: held, Con, Unit.
-/
namespace Go.Proofs.YtdjbejlbmaiocagGreatDoor
open Go.RowKit

theorem held_lt (m : Mod) (hm : checkM m = 0) (c : Cla) : heldP m.vars c < 2 ^ 36 := of_lt m.vars (vars_okP m hm) _
theorem Tryz.infoPartP : (Tryz.prog.info? 183).map (fun i => (i.zero, i.size, i.bytes)) = some (some (.int .u64 0), 1, 8) := by kernel_rfl
theorem parts_own (w : World) (n base : Nat) (hn : n ≤ 100000) (hb : base ≤ w.heap.size) : (w.alloc (.cells (madeCells #[.int .u64 0] n) 183)).ownsRow base 183 1 (.slice (some ⟨w.heap.size, 0, none⟩) n n) n (List.replicate n (.int .u64 0)) := by
  refine ⟨by simp, Or.inr ⟨w.heap.size, n, _, rfl, hb, heap_alloc_new w _, Nat.le_refl _, by unfold maxLen; omega, ?_, ?_⟩⟩
  · have h := congrArg List.length (toList_madeCells_one (.int .u64 0) n)
    simp at h
    simpa using h
  · rw [toList_madeCells_one]
    simp

set_option maxHeartbeats 1600000 in
set_option maxRecDepth 100000 in
theorem pheld_any (m : Mod) (hm : checkM m = 0) (l : List Cla) (hl6 : l.length ≤ 600) (vs cs u : Value) (w : World) (hma : MArg w vs cs m) (hu : LLArg w u l) :
    Calls Tryz.prog 131 #[modV vs cs m, u] w fun e w' => ∃ x, e = .returned x ∧ w'.ownsRow (w.heap.size + 1) 183 1 x l.length (u64s (l.map (heldP m.vars))) ∧ Below w.heap.size w w' := by
  have HMA : Hid (∀ w', Below w.heap.size w w' → MArg w' vs cs m) := fun w' h => MArg.below h hma
  have HM : Hid (checkM m = 0) := hm
  have hmk := run_make_row' (P := Tryz.prog) 180 183 (.int .u64 0) 8 Tryz.underParts Tryz.infoPartP rfl .i64 .i64 l.length (by omega) (by omega)
  obtain ⟨⟨a1, c1, rfl, _, _⟩, ⟨a2, c2, rfl, _, _⟩⟩ := hma
  obtain ⟨a3, c3, rfl, hm3, hr3⟩ := hu
  have HR3 : Hid (∀ (i : Nat) (t : Cla), l[i]? = some t → ∃ b off x, a3 = some ⟨b, off, none⟩ ∧ b < w.heap.size ∧ w.cell? ⟨b, off + i, none⟩ = some x ∧ LArg w x t) := hr3
  unfold maxLen at hm3
  obtain ⟨hm31, hm3⟩ := hm3
  unfold modV
  clear hm hr3
  go_enter Tryz.func131, Tryz.ntmps131
  go_wp2_with fail
  clear hmk
  have HB0 : Hid (Below w.heap.size w ((w.alloc (.cells #[.slice a1 m.vars.length c1, .slice a2 m.cons.length c2, .int .i64 m.goal, .int .i64 m.var] 25)).alloc (.cells (madeCells #[.int .u64 0] l.length) 183))) := (below_alloc _ _).alloc (by simp) _
  have HQ0 : Hid (((w.alloc (.cells #[.slice a1 m.vars.length c1, .slice a2 m.cons.length c2, .int .i64 m.goal, .int .i64 m.var] 25)).alloc (.cells (madeCells #[.int .u64 0] l.length) 183)).cell? ⟨w.heap.size, 0, none⟩ = some (.slice a1 m.vars.length c1)) :=
    (World.cell?_alloc_past _ _ _ (by simp)).trans (World.cell?_alloc_at _ _ _ 0 (by simp))
  have HO0 : Hid (((w.alloc (.cells #[.slice a1 m.vars.length c1, .slice a2 m.cons.length c2, .int .i64 m.goal, .int .i64 m.var] 25)).alloc (.cells (madeCells #[.int .u64 0] l.length) 183)).ownsRow (w.heap.size + 1) 183 1 (.slice (some ⟨w.heap.size + 1, 0, none⟩) l.length l.length) l.length (List.replicate l.length (.int .u64 0))) := by
    have h := parts_own (w.alloc (.cells #[.slice a1 m.vars.length c1, .slice a2 m.cons.length c2, .int .i64 m.goal, .int .i64 m.var] 25)) l.length (w.heap.size + 1) (by omega) (by simp)
    show World.ownsRow _ _ _ _ _ _ _
    simpa using h
  have HS0 : Hid (((w.alloc (.cells #[.slice a1 m.vars.length c1, .slice a2 m.cons.length c2, .int .i64 m.goal, .int .i64 m.var] 25)).alloc (.cells (madeCells #[.int .u64 0] l.length) 183)).heap.size = w.heap.size + 2) := by show _ = _; simp
  obtain ⟨W, hW⟩ : ∃ W, (w.alloc (.cells #[.slice a1 m.vars.length c1, .slice a2 m.cons.length c2, .int .i64 m.goal, .int .i64 m.var] 25)).alloc (.cells (madeCells #[.int .u64 0] l.length) 183) = W := ⟨_, rfl⟩
  rw [hW] at HB0 HQ0 HO0 HS0 ⊢
  clear hW
  go_loopw [13] (fun i wr => ∃ (k : Nat) (cells : List Value), k ≤ l.length ∧ i = .int .i64 k ∧ wr.ownsRow (w.heap.size + 1) 183 1 (.slice (some ⟨w.heap.size + 1, 0, none⟩) l.length l.length) l.length cells ∧ Hid (∀ j c, j < k → l[j]? = some c → cells[j]? = some (.int .u64 ((heldP m.vars c : Nat) : Int))) ∧ Below (w.heap.size + 1) W wr) (fun i _ => l.length - (intOf i).toNat)
  case atStart => exact ⟨0, _, by omega, rfl, HO0.out, fun j c h => by omega, Below.refl _ _⟩
  case round =>
    obtain ⟨k, cells, hk, rfl, hown, hall, hbw⟩ := hrel
    have HOW : Hid (wr.ownsRow (w.heap.size + 1) 183 1 (.slice (some ⟨w.heap.size + 1, 0, none⟩) l.length l.length) l.length cells) := hown
    have HBW : Hid (Below (w.heap.size + 1) W wr) := hbw
    have HBN : Hid (Below w.heap.size w wr) := HB0.out.trans (hbw.mono (by omega))
    have hq0 := (hbw.cell (p := ⟨w.heap.size, 0, none⟩) (by simp only; omega)).trans HQ0.out
    clear hown hbw
    by_cases hlt : k < l.length
    · obtain ⟨c, hc⟩ : ∃ c, l[k]? = some c := ⟨l[k], by simp [hlt]⟩
      obtain ⟨b, off, x, hax, hb, hcc0, hxa⟩ := HR3.out k c hc
      subst hax
      have hcc := (HBN.out.cell (p := ⟨b, off + k, none⟩) hb).trans hcc0
      have HXA : Hid (LArg wr x c) := LArg.below HBN.out hxa
      obtain ⟨ax, cx, rfl, _, _⟩ := hxa
      have HCK : Hid (l[k]? = some c) := hc
      have hlen : cells.length = l.length := by have := HOW.out.1; omega
      have HLEN : Hid (cells.length = l.length) := hlen
      clear hc hlen hcc0 hb
      obtain ⟨wo, rfl⟩ : ∃ wo : World, wo = wr := ⟨_, rfl⟩
      go_wp2_with fail
      refine (held_any m.vars (vars_all m HM.out) c _ _ _ (HMA.out _ HBN.out).1 HXA.out).mono ?_
      rintro e w1 ⟨rfl, hb1⟩
      have HOW1 : Hid (w1.ownsRow (w.heap.size + 1) 183 1 (.slice (some ⟨w.heap.size + 1, 0, none⟩) l.length l.length) l.length cells) := own_below HOW.out hb1
      have HBW1 : Hid (Below (w.heap.size + 1) W w1) := HBW.out.trans (hb1.mono (by have := HBW.out.size; have := HS0.out; omega))
      obtain ⟨y, hy⟩ : ∃ y, cells[k]? = some y := ⟨cells[k]'(by rw [HLEN.out]; exact hlt), by simp⟩
      have cN : w1.cell? ⟨w.heap.size + 1, k, none⟩ = some y := by rw [HOW1.out.cellAt k (by omega)]; exact hy
      have zN := HOW1.out.frozenAt k
      have HST : Hid ((w1.setCell ⟨w.heap.size + 1, k, none⟩ (.int .u64 ((heldP m.vars c : Nat) : Int))).ownsRow (w.heap.size + 1) 183 1 (.slice (some ⟨w.heap.size + 1, 0, none⟩) l.length l.length) l.length (cells.set k (.int .u64 ((heldP m.vars c : Nat) : Int)))) := (HOW1.out.stored k _).1
      have HBS : Hid (Below (w.heap.size + 1) W (w1.setCell ⟨w.heap.size + 1, k, none⟩ (.int .u64 ((heldP m.vars c : Nat) : Int)))) := HBW1.out.setCell (show w.heap.size + 1 ≤ w.heap.size + 1 from Nat.le_refl _) _
      have HAL : Hid (∀ j d, j < k + 1 → l[j]? = some d → (cells.set k (.int .u64 ((heldP m.vars c : Nat) : Int)))[j]? = some (.int .u64 ((heldP m.vars d : Nat) : Int))) := by
        intro j d hj hd
        by_cases hjk : j = k
        · subst hjk
          rw [HCK.out] at hd
          cases hd
          rw [List.getElem?_set_self (by rw [HLEN.out]; exact hlt)]
        · rw [List.getElem?_set_ne (fun h => hjk h.symm)]
          exact hall.out j d (by omega) hd
      have hlN : w.heap.size + 1 < w1.heap.size := by have := (HOW1.out.lt (w.heap.size + 1) rfl).2; exact this
      clear hy hb1 hq0
      go_wp2
      go_roundw
      case rel => exact ⟨k + 1, _, by omega, by go_num, HST.out, HAL, HBS.out⟩
      case measure => simp [intOf]; omega
    · have hke : k = l.length := by omega
      have HE : Hid (cells = u64s (l.map (heldP m.vars))) := by
        show _ = _
        have hlen : cells.length = l.length := by have := HOW.out.1; omega
        apply List.ext_getElem?
        intro j
        by_cases hj : j < l.length
        · rw [hall.out j l[j] (by omega) (by simp [hj])]
          unfold u64s
          simp [hj]
        · rw [List.getElem?_eq_none (by omega), List.getElem?_eq_none (by unfold u64s; simp; omega)]
      have HF : Hid (wr.ownsRow (w.heap.size + 1) 183 1 (.slice (some ⟨w.heap.size + 1, 0, none⟩) l.length l.length) l.length (u64s (l.map (heldP m.vars)))) := by rw [← HE.out]; exact HOW.out
      clear hke hq0
      go_wp2
      go_ret
      exact ⟨_, rfl, HF.out, HBN.out⟩
end Go.Proofs.YtdjbejlbmaiocagGreatDoor
/-
  WALKS: package proof: Con, Unit.
-/
namespace Go.Proofs.YtdjbejlbmaiocagGreatDoor
open Go.RowKit

def pconA (m : Mod) (con : Int) (c : Cla) : Bool × Int :=
  if conCheck m con = 0 then (if claE m.vars c = 0 then (saysP m.vars (pointsP m.vars (m.cons.getD con.toNat noCon)) (heldP m.vars c), 0) else (false, claE m.vars c)) else (false, conCheck m con)
def punitA (m : Mod) (l : List Cla) (c : Cla) : Bool × Int :=
  if checkM m = 0 then (if clasE m.vars l = 0 then (if claE m.vars c = 0 then (failsP m.vars (l.map (heldP m.vars)) (heldP m.vars c), 0) else (false, claE m.vars c)) else (false, clasE m.vars l)) else (false, checkM m)
theorem scopeA_err (m : Mod) (con : Int) : (scopeA m con).2 = conCheck m con := by
  unfold scopeA
  split
  · rename_i h; exact h.symm
  · rfl

set_option maxHeartbeats 1600000 in
set_option maxRecDepth 100000 in
theorem pcon_any (m : Mod) (con : Int) (c : Cla) (vs cs u : Value) (w : World) (hma : MArg w vs cs m) (hu : LArg w u c) :
    Calls Tryz.prog 71 #[modV vs cs m, .int .i64 con, u] w fun e w' => e = .returned (.tuple #[.bool (pconA m con c).1, .int .i64 (pconA m con c).2]) ∧ Below w.heap.size w w' := by
  have HMA : Hid (∀ w', Below w.heap.size w w' → MArg w' vs cs m) := fun w' h => MArg.below h hma
  have HU : Hid (∀ w', Below w.heap.size w w' → LArg w' u c) := fun w' h => LArg.below h hu
  obtain ⟨R, hR⟩ : ∃ R, pconA m con c = R := ⟨_, rfl⟩
  have HR : Hid (pconA m con c = R) := hR
  rw [hR]
  obtain ⟨⟨a1, c1, rfl, _, _⟩, ⟨a2, c2, rfl, _, _⟩⟩ := hma
  obtain ⟨a3, c3, rfl, _, _⟩ := hu
  unfold modV
  clear hR
  go_enter Tryz.func71, Tryz.ntmps71
  go_wp2_with fail
  refine (mscope_any m con _ _ _ (HMA.out _ (below_alloc _ _))).mono ?_
  rw [scopeA_err]
  rintro e w1 ⟨x, rfl, hx, hb1⟩
  obtain ⟨ax, cx, rfl, _, _⟩ := hx
  have HB1 : Hid (Below w.heap.size w w1) := (below_alloc _ _).trans (hb1.mono (by simp))
  have l1 : w.heap.size < w1.heap.size := by have := hb1.size; simp at this; omega
  have k0 : w1.cell? ⟨w.heap.size, 0, none⟩ = some (.slice a1 m.vars.length c1) := (hb1.cell (by simp)).trans (World.cell?_alloc_at _ _ _ 0 (by simp))
  have k1 : w1.cell? ⟨w.heap.size, 1, none⟩ = some (.slice a2 m.cons.length c2) := (hb1.cell (by simp)).trans (World.cell?_alloc_at _ _ _ 1 (by simp))
  have k2 : w1.cell? ⟨w.heap.size, 2, none⟩ = some (.int .i64 m.goal) := (hb1.cell (by simp)).trans (World.cell?_alloc_at _ _ _ 2 (by simp))
  have k3 : w1.cell? ⟨w.heap.size, 3, none⟩ = some (.int .i64 m.var) := (hb1.cell (by simp)).trans (World.cell?_alloc_at _ _ _ 3 (by simp))
  clear hb1
  obtain ⟨er, her⟩ : ∃ er, conCheck m con = er := ⟨_, rfl⟩
  have HER : Hid (conCheck m con = er) := her
  rw [her]
  clear her
  by_cases he : er = 0
  · subst he
    obtain ⟨ok1, ok2, ok3⟩ := conCheck_ok m con HER.out
    obtain ⟨j, rfl⟩ : ∃ j : Nat, con = (j : Int) := ⟨con.toNat, by omega⟩
    have hj : j < m.cons.length := by omega
    obtain ⟨k, hk⟩ : ∃ k, m.cons[j]? = some k := ⟨m.cons[j], by simp [hj]⟩
    have HK : Hid (m.cons[j]? = some k) := hk
    have HM : Hid (checkM m = 0) := ok1
    have HR2 : Hid (R = if claE m.vars c = 0 then (saysP m.vars (pointsP m.vars k) (heldP m.vars c), 0) else (false, claE m.vars c)) := by
      show _ = _
      rw [← HR.out]
      unfold pconA
      rw [if_pos HER.out, Int.toNat_natCast, List.getD_eq_getElem?_getD, hk]; rfl
    clear hk ok1 ok2 ok3
    go_wp2_with fail
    refine (cla_check m.vars c _ _ _ (HMA.out _ HB1.out).1 (HU.out _ HB1.out)).mono ?_
    rintro e w2 ⟨rfl, hb2⟩
    have HB2 : Hid (Below w.heap.size w w2) := HB1.out.trans (hb2.mono HB1.out.size)
    have l2 : w.heap.size < w2.heap.size := Nat.lt_of_lt_of_le l1 hb2.size
    have j0 := (hb2.cell (p := ⟨w.heap.size, 0, none⟩) l1).trans k0
    have j1 := (hb2.cell (p := ⟨w.heap.size, 1, none⟩) l1).trans k1
    have j2 := (hb2.cell (p := ⟨w.heap.size, 2, none⟩) l1).trans k2
    have j3 := (hb2.cell (p := ⟨w.heap.size, 3, none⟩) l1).trans k3
    clear hb2 k0 k1 k2 k3 l1
    obtain ⟨ec, hec⟩ : ∃ ec, claE m.vars c = ec := ⟨_, rfl⟩
    rw [hec] at HR2 ⊢
    clear hec
    by_cases hc0 : ec = 0
    · subst hc0
      have HRF : Hid (R = (saysP m.vars (pointsP m.vars k) (heldP m.vars c), 0)) := by show _ = _; rw [HR2.out, if_pos rfl]
      have HPT : Hid (∀ Y, Below w2.heap.size w2 Y → Calls Tryz.prog 127 #[.agg #[.slice a1 m.vars.length c1, .slice a2 m.cons.length c2, .int .i64 m.goal, .int .i64 m.var], .int .i64 (j : Int)] Y fun e w' => ∃ x, e = .returned x ∧ PArg w' x (pointsP m.vars k) ∧ Below Y.heap.size Y w') := fun Y hY =>
        points_any m j k _ _ Y HM.out HK.out (HMA.out _ (HB2.out.trans (hY.mono HB2.out.size)))
      have HHE : Hid (∀ Y, Below w2.heap.size w2 Y → Calls Tryz.prog 128 #[.slice a1 m.vars.length c1, .slice a3 (List.length c) c3] Y fun e w' => e = .returned (.int .u64 ((heldP m.vars c : Nat) : Int)) ∧ Below Y.heap.size Y w') := fun Y hY =>
        held_any m.vars (vars_all m HM.out) c _ _ Y (HMA.out _ (HB2.out.trans (hY.mono HB2.out.size))).1 (HU.out _ (HB2.out.trans (hY.mono HB2.out.size)))
      have HSA : Hid (∀ (Y : World) (pv : Value), Below w2.heap.size w2 Y → PArg Y pv (pointsP m.vars k) → Calls Tryz.prog 126 #[.slice a1 m.vars.length c1, pv, .int .u64 ((heldP m.vars c : Nat) : Int)] Y fun e w' => e = .returned (.bool (saysP m.vars (pointsP m.vars k) (heldP m.vars c))) ∧ Below Y.heap.size Y w') := fun Y pv hY hp =>
        says_any m.vars (vars_all m HM.out) _ _ (held_lt m HM.out c) _ pv Y (HMA.out _ (HB2.out.trans (hY.mono HB2.out.size))).1 hp
      clear HR2 HR HER
      go_wp2_with fail
      go_region_held3 (fun w' => Below w2.heap.size w2 w' ∧ w'.cell? ⟨w.heap.size, 0, none⟩ = some (.slice a1 m.vars.length c1) ∧ w'.cell? ⟨w.heap.size, 1, none⟩ = some (.slice a2 m.cons.length c2) ∧ w'.cell? ⟨w.heap.size, 2, none⟩ = some (.int .i64 m.goal) ∧ w'.cell? ⟨w.heap.size, 3, none⟩ = some (.int .i64 m.var))
        ((refine (fun (hB : Below w2.heap.size w2 _) => ⟨hB, (hB.cell (p := ⟨w.heap.size, 0, none⟩) l2).trans j0, (hB.cell (p := ⟨w.heap.size, 1, none⟩) l2).trans j1, (hB.cell (p := ⟨w.heap.size, 2, none⟩) l2).trans j2, (hB.cell (p := ⟨w.heap.size, 3, none⟩) l2).trans j3⟩ : Below w2.heap.size w2 _ → _) ?_; first | exact (Below.refl _ _).drew | exact fen_call (by assumption) hbq))
        (first
          | (go_at_call 127; refine (HPT.out _ (show Below w2.heap.size w2 _ ∧ _ by assumption).1).mono ?_; rintro e w3 ⟨x, rfl, hp3, hbq⟩; have HP3 : Hid (PArg w3 x (pointsP m.vars k)) := hp3; obtain ⟨ap, cp, rfl, _, _⟩ := hp3; have hB3 := fen_call (by assumption) hbq)
          | (go_at_call 128; refine (HHE.out _ (show Below w2.heap.size w2 _ ∧ _ by assumption).1).mono ?_; rintro e w4 ⟨rfl, hbq⟩; have HP4 : Hid (PArg w4 _ (pointsP m.vars k)) := PArg.below hbq HP3.out; have hB4 := fen_call (by assumption) hbq)
          | (go_at_call 126; refine (HSA.out _ _ (show Below w2.heap.size w2 _ ∧ _ by assumption).1 HP4.out).mono ?_; rintro e w5 ⟨rfl, hbq⟩; have hB5 := fen_call (by assumption) hbq))
      have HB5 : Hid (Below w.heap.size w w5) := HB2.out.trans (hB5.mono HB2.out.size)
      go_wp2
      go_ret2
      exact ⟨by rw [HRF.out]; rfl, HB5.out⟩
    · have HRF : Hid (R = (false, ec)) := by show _ = _; rw [HR2.out, if_neg hc0]
      have he2 : (ec != 0) = true := by simpa using hc0
      clear hc0 HR2
      go_wp2
      go_ret2
      exact ⟨by rw [HRF.out]; rfl, HB2.out⟩
  · have HRF : Hid (R = (false, er)) := by
      show _ = _
      rw [← HR.out]
      unfold pconA
      rw [HER.out, if_neg he]
    have he2 : (er != 0) = true := by simpa using he
    clear he
    go_wp2
    go_ret2
    exact ⟨by rw [HRF.out]; rfl, HB1.out⟩
end Go.Proofs.YtdjbejlbmaiocagGreatDoor
/-
  WALKS: package proof: Unit.
-/
namespace Go.Proofs.YtdjbejlbmaiocagGreatDoor
open Go.RowKit

theorem helds_lt (m : Mod) (hm : checkM m = 0) (l : List Cla) : ∀ z ∈ l.map (heldP m.vars), z < 2 ^ 36 := by
  intro z hz
  obtain ⟨c, _, rfl⟩ := List.mem_map.1 hz
  exact held_lt m hm c

set_option maxHeartbeats 1600000 in
set_option maxRecDepth 100000 in
theorem punit_any (m : Mod) (l : List Cla) (c : Cla) (vs cs ul u : Value) (w : World) (hma : MArg w vs cs m) (hul : LLArg w ul l) (hu : LArg w u c) (hT : TabT w) :
    Calls Tryz.prog 72 #[modV vs cs m, ul, u] w fun e w' => e = .returned (.tuple #[.bool (punitA m l c).1, .int .i64 (punitA m l c).2]) ∧ Below w.heap.size w w' := by
  have HMA : Hid (∀ w', Below w.heap.size w w' → MArg w' vs cs m) := fun w' h => MArg.below h hma
  have HU : Hid (∀ w', Below w.heap.size w w' → LArg w' u c) := fun w' h => LArg.below h hu
  have HL : Hid (∀ w', Below w.heap.size w w' → LLArg w' ul l) := fun w' h => LLArg.below h hul
  have HT : Hid (∀ w', Below w.heap.size w w' → TabT w') := fun w' h => hT.below h
  obtain ⟨R, hR⟩ : ∃ R, punitA m l c = R := ⟨_, rfl⟩
  have HR : Hid (punitA m l c = R) := hR
  rw [hR]
  obtain ⟨⟨a1, c1, rfl, _, _⟩, ⟨a2, c2, rfl, _, _⟩⟩ := hma
  obtain ⟨a3, c3, rfl, _, _⟩ := hu
  obtain ⟨a4, c4, rfl, _, _⟩ := hul
  unfold modV
  clear hR hT
  go_enter Tryz.func72, Tryz.ntmps72
  go_wp2_with fail
  refine (check_model m _ _ _ (HMA.out _ (below_alloc _ _))).mono ?_
  rintro e w1 ⟨rfl, hb1⟩
  have HB1 : Hid (Below w.heap.size w w1) := (below_alloc _ _).trans (hb1.mono (by simp))
  have l1 : w.heap.size < w1.heap.size := by have := hb1.size; simp at this; omega
  have k0 : w1.cell? ⟨w.heap.size, 0, none⟩ = some (.slice a1 m.vars.length c1) := (hb1.cell (by simp)).trans (World.cell?_alloc_at _ _ _ 0 (by simp))
  have k1 : w1.cell? ⟨w.heap.size, 1, none⟩ = some (.slice a2 m.cons.length c2) := (hb1.cell (by simp)).trans (World.cell?_alloc_at _ _ _ 1 (by simp))
  have k2 : w1.cell? ⟨w.heap.size, 2, none⟩ = some (.int .i64 m.goal) := (hb1.cell (by simp)).trans (World.cell?_alloc_at _ _ _ 2 (by simp))
  have k3 : w1.cell? ⟨w.heap.size, 3, none⟩ = some (.int .i64 m.var) := (hb1.cell (by simp)).trans (World.cell?_alloc_at _ _ _ 3 (by simp))
  clear hb1
  obtain ⟨er, her⟩ : ∃ er, checkM m = er := ⟨_, rfl⟩
  have HER : Hid (checkM m = er) := her
  rw [her]
  clear her
  by_cases he : er = 0
  · subst he
    have HM : Hid (checkM m = 0) := HER.out
    have HR2 : Hid (R = if clasE m.vars l = 0 then (if claE m.vars c = 0 then (failsP m.vars (l.map (heldP m.vars)) (heldP m.vars c), 0) else (false, claE m.vars c)) else (false, clasE m.vars l)) := by
      show _ = _
      rw [← HR.out]
      unfold punitA
      rw [if_pos HM.out]
    clear HR HER
    go_wp2_with fail
    refine (clas_check m.vars l _ _ _ (HMA.out _ HB1.out).1 (HL.out _ HB1.out)).mono ?_
    rintro e w2 ⟨rfl, hb2⟩
    have HB2 : Hid (Below w.heap.size w w2) := HB1.out.trans (hb2.mono HB1.out.size)
    have l2 : w.heap.size < w2.heap.size := Nat.lt_of_lt_of_le l1 hb2.size
    have j0 := (hb2.cell (p := ⟨w.heap.size, 0, none⟩) l1).trans k0
    have j1 := (hb2.cell (p := ⟨w.heap.size, 1, none⟩) l1).trans k1
    have j2 := (hb2.cell (p := ⟨w.heap.size, 2, none⟩) l1).trans k2
    have j3 := (hb2.cell (p := ⟨w.heap.size, 3, none⟩) l1).trans k3
    clear hb2 k0 k1 k2 k3 l1
    obtain ⟨el, hel⟩ : ∃ el, clasE m.vars l = el := ⟨_, rfl⟩
    have HEL : Hid (clasE m.vars l = el) := hel
    rw [hel] at HR2 ⊢
    clear hel
    by_cases hl0 : el = 0
    · subst hl0
      have HLO := clasE_ok m.vars l HEL.out
      have HL6 : Hid (l.length ≤ 600) := HLO.1
      have HR3 : Hid (R = if claE m.vars c = 0 then (failsP m.vars (l.map (heldP m.vars)) (heldP m.vars c), 0) else (false, claE m.vars c)) := by show _ = _; rw [HR2.out, if_pos rfl]
      clear HR2 HEL HLO
      go_wp2_with fail
      refine (cla_check m.vars c _ _ _ (HMA.out _ HB2.out).1 (HU.out _ HB2.out)).mono ?_
      rintro e w3 ⟨rfl, hb3⟩
      have HB3 : Hid (Below w.heap.size w w3) := HB2.out.trans (hb3.mono HB2.out.size)
      have l3 : w.heap.size < w3.heap.size := Nat.lt_of_lt_of_le l2 hb3.size
      have i0 := (hb3.cell (p := ⟨w.heap.size, 0, none⟩) l2).trans j0
      have i1 := (hb3.cell (p := ⟨w.heap.size, 1, none⟩) l2).trans j1
      have i2 := (hb3.cell (p := ⟨w.heap.size, 2, none⟩) l2).trans j2
      have i3 := (hb3.cell (p := ⟨w.heap.size, 3, none⟩) l2).trans j3
      clear hb3 j0 j1 j2 j3 l2
      obtain ⟨ec, hec⟩ : ∃ ec, claE m.vars c = ec := ⟨_, rfl⟩
      rw [hec] at HR3 ⊢
      clear hec
      by_cases hc0 : ec = 0
      · subst hc0
        obtain ⟨L, hLL⟩ : ∃ L, l.map (heldP m.vars) = L := ⟨_, rfl⟩
        have HLL : Hid (l.map (heldP m.vars) = L) := hLL
        have HLT : Hid (∀ z ∈ L, z < 2 ^ 36) := by rw [← hLL]; exact helds_lt m HM.out l
        rw [hLL] at HR3
        have HRF : Hid (R = (failsP m.vars L (heldP m.vars c), 0)) := by show _ = _; rw [HR3.out, if_pos rfl]
        clear hLL
        have HTO : Hid (∀ Y, Below w3.heap.size w3 Y → Below w.heap.size w Y) := fun Y hY => HB3.out.trans (hY.mono HB3.out.size)
        have HPH : Hid (∀ Y, Below w3.heap.size w3 Y → Calls Tryz.prog 131 #[.agg #[.slice a1 m.vars.length c1, .slice a2 m.cons.length c2, .int .i64 m.goal, .int .i64 m.var], .slice a4 l.length c4] Y fun e w' => ∃ x, e = .returned x ∧ PArg w' x L ∧ Below Y.heap.size Y w') := fun Y hY =>
          (pheld_any m HM.out l HL6.out _ _ _ Y (HMA.out _ (HTO.out _ hY)) (HL.out _ (HTO.out _ hY))).mono fun e w' ⟨x, h1, h2, h3⟩ => ⟨x, h1, own_parts (by rw [← HLL.out, List.length_map]; exact h2) HLT.out, h3⟩
        have HHE : Hid (∀ Y, Below w3.heap.size w3 Y → Calls Tryz.prog 128 #[.slice a1 m.vars.length c1, .slice a3 (List.length c) c3] Y fun e w' => e = .returned (.int .u64 ((heldP m.vars c : Nat) : Int)) ∧ Below Y.heap.size Y w') := fun Y hY =>
          held_any m.vars (vars_all m HM.out) c _ _ Y (HMA.out _ (HTO.out _ hY)).1 (HU.out _ (HTO.out _ hY))
        have HFA : Hid (∀ (Y : World) (pv : Value), Below w3.heap.size w3 Y → PArg Y pv L → Calls Tryz.prog 130 #[.slice a1 m.vars.length c1, pv, .int .u64 ((heldP m.vars c : Nat) : Int)] Y fun e w' => e = .returned (.bool (failsP m.vars L (heldP m.vars c))) ∧ Below Y.heap.size Y w') := fun Y pv hY hp =>
          fails_any m.vars (vars_all m HM.out) (checkM_vars m HM.out).1 _ _ (held_lt m HM.out c) _ pv Y (HMA.out _ (HTO.out _ hY)).1 hp (HT.out _ (HTO.out _ hY))
        clear HR3
        go_wp2_with fail
        go_region_held3 (fun w' => Below w3.heap.size w3 w' ∧ w'.cell? ⟨w.heap.size, 0, none⟩ = some (.slice a1 m.vars.length c1) ∧ w'.cell? ⟨w.heap.size, 1, none⟩ = some (.slice a2 m.cons.length c2) ∧ w'.cell? ⟨w.heap.size, 2, none⟩ = some (.int .i64 m.goal) ∧ w'.cell? ⟨w.heap.size, 3, none⟩ = some (.int .i64 m.var))
          ((refine (fun (hB : Below w3.heap.size w3 _) => ⟨hB, (hB.cell (p := ⟨w.heap.size, 0, none⟩) l3).trans i0, (hB.cell (p := ⟨w.heap.size, 1, none⟩) l3).trans i1, (hB.cell (p := ⟨w.heap.size, 2, none⟩) l3).trans i2, (hB.cell (p := ⟨w.heap.size, 3, none⟩) l3).trans i3⟩ : Below w3.heap.size w3 _ → _) ?_; first | exact (Below.refl _ _).drew | exact fen_call (by assumption) hbq))
          (first
            | (go_at_call 131; refine (HPH.out _ (show Below w3.heap.size w3 _ ∧ _ by assumption).1).mono ?_; rintro e w4 ⟨x, rfl, hp4, hbq⟩; have HP4 : Hid (PArg w4 x L) := hp4; obtain ⟨ap, cp, rfl, _, _⟩ := hp4; have hB4 := fen_call (by assumption) hbq)
            | (go_at_call 128; refine (HHE.out _ (show Below w3.heap.size w3 _ ∧ _ by assumption).1).mono ?_; rintro e w5 ⟨rfl, hbq⟩; have HP5 : Hid (PArg w5 _ L) := PArg.below hbq HP4.out; have hB5 := fen_call (by assumption) hbq)
            | (go_at_call 130; refine (HFA.out _ _ (show Below w3.heap.size w3 _ ∧ _ by assumption).1 HP5.out).mono ?_; rintro e w6 ⟨rfl, hbq⟩; have hB6 := fen_call (by assumption) hbq))
        have HB6 : Hid (Below w.heap.size w w6) := HTO.out _ hB6
        go_wp2
        go_ret2
        exact ⟨by rw [HRF.out]; rfl, HB6.out⟩
      · have HRF : Hid (R = (false, ec)) := by show _ = _; rw [HR3.out, if_neg hc0]
        have he2 : (ec != 0) = true := by simpa using hc0
        clear hc0 HR3
        go_wp2
        go_ret2
        exact ⟨by rw [HRF.out]; rfl, HB3.out⟩
    · have HRF : Hid (R = (false, el)) := by show _ = _; rw [HR2.out, if_neg hl0]
      have he2 : (el != 0) = true := by simpa using hl0
      clear hl0 HR2
      go_wp2
      go_ret2
      exact ⟨by rw [HRF.out]; rfl, HB2.out⟩
  · have HRF : Hid (R = (false, er)) := by
      show _ = _
      rw [← HR.out]
      unfold punitA
      rw [HER.out, if_neg he]
    have he2 : (er != 0) = true := by simpa using he
    clear he
    go_wp2
    go_ret2
    exact ⟨by rw [HRF.out]; rfl, HB1.out⟩
end Go.Proofs.YtdjbejlbmaiocagGreatDoor
/-
  MEMORY: steps of proofs. WALK: package proof: checkAll.
-/
namespace Go.Proofs.YtdjbejlbmaiocagGreatDoor
open Go.RowKit

/-- A list of steps. -/
def StArg (w : World) (v : Value) (l : List MStep) : Prop :=
  ∃ a c, v = .slice a l.length c ∧ (l.length ≤ c ∧ c ≤ maxLen) ∧ ∀ (i : Nat) (t : MStep), l[i]? = some t → ∃ b off x, a = some ⟨b, off, none⟩ ∧ b < w.heap.size ∧
    w.cell? ⟨b, off + i * 3, none⟩ = some (.int .i64 t.kind) ∧ w.cell? ⟨b, off + i * 3 + 1, none⟩ = some (.int .i64 t.con) ∧ w.cell? ⟨b, off + i * 3 + 2, none⟩ = some x ∧ LArg w x t.cla
theorem StArg.below {w w' : World} {v : Value} {l : List MStep} (hb : Below w.heap.size w w') (h : StArg w v l) : StArg w' v l := by
  obtain ⟨a, c, hv, hm, hr⟩ := h
  refine ⟨a, c, hv, hm, fun i z hz => ?_⟩
  obtain ⟨b, off, x, ha, hlt, c0, c1, c2, hx⟩ := hr i z hz
  exact ⟨b, off, x, ha, Nat.lt_of_lt_of_le hlt hb.size, (hb.cell (p := ⟨b, off + i * 3, none⟩) hlt).trans c0, (hb.cell (p := ⟨b, off + i * 3 + 1, none⟩) hlt).trans c1, (hb.cell (p := ⟨b, off + i * 3 + 2, none⟩) hlt).trans c2, LArg.below hb hx⟩
/-- Is the constraint of a step there? -/
def thereB (n : Int) (s : MStep) : Bool := !(decide (s.kind = 1) && (decide (s.con < 0) || decide (n ≤ s.con)))
def stepsE (m : Mod) (given : List Cla) (l : List MStep) : Int :=
  if checkM m = 0 then (if 6000 < l.length then 2 else if clasE m.vars given = 0 then
    (if firstE (l.map fun s => claE m.vars s.cla) = 0 then (if l.all (thereB m.cons.length) then 0 else 5) else firstE (l.map fun s => claE m.vars s.cla)) else clasE m.vars given) else checkM m
theorem stepsE_ok (m : Mod) (given : List Cla) (l : List MStep) (h : stepsE m given l = 0) : checkM m = 0 ∧ l.length ≤ 6000 ∧ clasE m.vars given = 0 ∧ (∀ s ∈ l, claE m.vars s.cla = 0) ∧ ∀ s ∈ l, s.kind = 1 → 0 ≤ s.con ∧ s.con < (m.cons.length : Int) := by
  unfold stepsE at h
  by_cases h0 : checkM m = 0
  · rw [if_pos h0] at h
    by_cases h1 : 6000 < l.length
    · rw [if_pos h1] at h; cases h
    · rw [if_neg h1] at h
      by_cases h2 : clasE m.vars given = 0
      · rw [if_pos h2] at h
        by_cases h3 : firstE (l.map fun s => claE m.vars s.cla) = 0
        · rw [if_pos h3] at h
          cases h4 : l.all (thereB m.cons.length)
          · rw [h4] at h; cases h
          · refine ⟨h0, by omega, h2, fun s hs => firstE_all _ h3 _ (List.mem_map.2 ⟨s, hs, rfl⟩), fun s hs hk => ?_⟩
            have := List.all_eq_true.1 h4 s hs
            unfold thereB at this
            simp [hk] at this
            omega
        · rw [if_neg h3] at h; exact absurd h h3
      · rw [if_neg h2] at h; exact absurd h h2
  · rw [if_neg h0] at h; exact absurd h h0

set_option maxHeartbeats 3200000 in
set_option maxRecDepth 100000 in
theorem pchecks_any (m : Mod) (given : List Cla) (l : List MStep) (vs cs ul u : Value) (w : World) (hma : MArg w vs cs m) (hul : LLArg w ul given) (hu : StArg w u l) :
    Calls Tryz.prog 80 #[modV vs cs m, ul, u] w fun e w' => e = .returned (.int .i64 (stepsE m given l)) ∧ Below w.heap.size w w' := by
  have HMA : Hid (∀ w', Below w.heap.size w w' → MArg w' vs cs m) := fun w' h => MArg.below h hma
  have HL : Hid (∀ w', Below w.heap.size w w' → LLArg w' ul given) := fun w' h => LLArg.below h hul
  obtain ⟨R, hR⟩ : ∃ R, stepsE m given l = R := ⟨_, rfl⟩
  have HR : Hid (stepsE m given l = R) := hR
  rw [hR]
  obtain ⟨⟨a1, c1, rfl, _, _⟩, ⟨a2, c2, rfl, _, _⟩⟩ := hma
  obtain ⟨a3, c3, rfl, hm3, hr3⟩ := hu
  have HST : Hid (∀ (i : Nat) (t : MStep), l[i]? = some t → ∃ b off x, a3 = some ⟨b, off, none⟩ ∧ b < w.heap.size ∧
    w.cell? ⟨b, off + i * 3, none⟩ = some (.int .i64 t.kind) ∧ w.cell? ⟨b, off + i * 3 + 1, none⟩ = some (.int .i64 t.con) ∧ w.cell? ⟨b, off + i * 3 + 2, none⟩ = some x ∧ LArg w x t.cla) := hr3
  unfold maxLen at hm3
  obtain ⟨hm31, hm3⟩ := hm3
  obtain ⟨a4, c4, rfl, _, _⟩ := hul
  unfold modV
  clear hR hr3
  go_enter Tryz.func80, Tryz.ntmps80
  go_wp2_with fail
  refine (check_model m _ _ _ (HMA.out _ (below_alloc _ _))).mono ?_
  rintro e w1 ⟨rfl, hb1⟩
  have HB1 : Hid (Below w.heap.size w w1) := (below_alloc _ _).trans (hb1.mono (by simp))
  have l1 : w.heap.size < w1.heap.size := by have := hb1.size; simp at this; omega
  have k0 : w1.cell? ⟨w.heap.size, 0, none⟩ = some (.slice a1 m.vars.length c1) := (hb1.cell (by simp)).trans (World.cell?_alloc_at _ _ _ 0 (by simp))
  have k1 : w1.cell? ⟨w.heap.size, 1, none⟩ = some (.slice a2 m.cons.length c2) := (hb1.cell (by simp)).trans (World.cell?_alloc_at _ _ _ 1 (by simp))
  clear hb1
  obtain ⟨er, her⟩ : ∃ er, checkM m = er := ⟨_, rfl⟩
  have HER : Hid (checkM m = er) := her
  rw [her]
  clear her
  by_cases he : er = 0
  · subst he
    by_cases h60 : 6000 < l.length
    · have HRF : Hid (R = 2) := by show _ = _; rw [← HR.out]; unfold stepsE; rw [if_pos HER.out, if_pos h60]
      go_wp2
      go_ret
      exact ⟨ret_int HRF.out.symm, HB1.out⟩
    · have HR2 : Hid (R = if clasE m.vars given = 0 then (if firstE (l.map fun s => claE m.vars s.cla) = 0 then (if l.all (thereB m.cons.length) then 0 else 5) else firstE (l.map fun s => claE m.vars s.cla)) else clasE m.vars given) := by
        show _ = _
        rw [← HR.out]
        unfold stepsE
        rw [if_pos HER.out, if_neg h60]
      clear HR
      go_wp2_with fail
      refine (clas_check m.vars given _ _ _ (HMA.out _ HB1.out).1 (HL.out _ HB1.out)).mono ?_
      rintro e w2 ⟨rfl, hb2⟩
      have HB2 : Hid (Below w.heap.size w w2) := HB1.out.trans (hb2.mono HB1.out.size)
      have HL2 : Hid (w.heap.size < w2.heap.size) := Nat.lt_of_lt_of_le l1 hb2.size
      have HJ0 : Hid (w2.cell? ⟨w.heap.size, 0, none⟩ = some (.slice a1 m.vars.length c1)) := (hb2.cell (p := ⟨w.heap.size, 0, none⟩) l1).trans k0
      have HJ1 : Hid (w2.cell? ⟨w.heap.size, 1, none⟩ = some (.slice a2 m.cons.length c2)) := (hb2.cell (p := ⟨w.heap.size, 1, none⟩) l1).trans k1
      clear hb2 k0 k1 l1
      obtain ⟨el, hel⟩ : ∃ el, clasE m.vars given = el := ⟨_, rfl⟩
      rw [hel] at HR2 ⊢
      clear hel
      by_cases hl0 : el = 0
      · subst hl0
        have HR3 : Hid (R = if firstE (l.map fun s => claE m.vars s.cla) = 0 then (if l.all (thereB m.cons.length) then 0 else 5) else firstE (l.map fun s => claE m.vars s.cla)) := by show _ = _; rw [HR2.out, if_pos rfl]
        clear HR2
        go_wp2_with fail
        go_loopw [31] (fun i wr => ∃ k : Nat, k ≤ l.length ∧ i = .int .i64 k ∧ Hid (firstE ((l.map fun s => claE m.vars s.cla).take k) = 0) ∧ Below w2.heap.size w2 wr) (fun i _ => l.length - (intOf i).toNat)
        case atStart => exact ⟨0, by omega, rfl, rfl, Below.refl _ _⟩
        case round =>
          obtain ⟨k, hk, rfl, hall, hbw⟩ := hrel
          have HBW : Hid (Below w2.heap.size w2 wr) := hbw
          have HBN : Hid (Below w.heap.size w wr) := HB2.out.trans (hbw.mono HB2.out.size)
          have i0 := (hbw.cell (p := ⟨w.heap.size, 0, none⟩) HL2.out).trans HJ0.out
          have lr : w.heap.size < wr.heap.size := Nat.lt_of_lt_of_le HL2.out hbw.size
          clear hbw
          by_cases hlt : k < l.length
          · obtain ⟨t, ht⟩ : ∃ t, l[k]? = some t := ⟨l[k], by simp [hlt]⟩
            obtain ⟨b, off, x, hax, hb, q0, q1, q2, hxa⟩ := HST.out k t ht
            subst hax
            have hc0 := (HBN.out.cell (p := ⟨b, off + k * 3, none⟩) hb).trans q0
            have hc1 := (HBN.out.cell (p := ⟨b, off + k * 3 + 1, none⟩) hb).trans q1
            have hc2 := (HBN.out.cell (p := ⟨b, off + k * 3 + 2, none⟩) hb).trans q2
            have HXA : Hid (∀ w', Below w.heap.size w w' → LArg w' x t.cla) := fun w' h => LArg.below h hxa
            obtain ⟨ax, cx, rfl, _, _⟩ := hxa
            obtain ⟨er, her⟩ : ∃ er, claE m.vars t.cla = er := ⟨_, rfl⟩
            have HE1 : Hid (claE m.vars t.cla = er) := her
            have HZ : Hid ((l.map fun s => claE m.vars s.cla)[k]? = some er) := by show _ = _; rw [List.getElem?_map, ht, ← her]; rfl
            clear ht q0 q1 q2 her hb
            go_wp2_with fail
            refine (cla_check m.vars t.cla _ _ _ (HMA.out _ (HBN.out.alloc HBN.out.size _)).1 (HXA.out _ (HBN.out.alloc HBN.out.size _))).mono ?_
            rintro e w3 ⟨rfl, hb3⟩
            rw [HE1.out]
            have HB3 : Hid (Below w2.heap.size w2 w3) := (HBW.out.alloc HBW.out.size _).trans (hb3.mono (by have := HBW.out.size; simp; omega))
            clear hb3 hc0 hc1 hc2 i0
            by_cases he : er = 0
            · subst he
              have HN : Hid (firstE ((l.map fun s => claE m.vars s.cla).take (k + 1)) = 0) := firstE_step _ k hall.out HZ.out
              go_wp2
              go_roundw
              case rel => exact ⟨k + 1, by omega, by go_num, HN, HB3.out⟩
              case measure => simp [intOf]; omega
            · have HF := firstE_hit _ k er hall.out HZ.out he
              have HRF : Hid (R = er) := by show _ = _; rw [HR3.out, HF, if_neg he]
              have he2 : (er != 0) = true := by simpa using he
              have HB4 : Hid (Below w.heap.size w w3) := HB2.out.trans (HB3.out.mono HB2.out.size)
              clear hall he HF
              go_wp2
              go_ret
              exact ⟨ret_int HRF.out.symm, HB4.out⟩
          · have hke : k = l.length := by omega
            have HR4 : Hid (R = if l.all (thereB m.cons.length) then 0 else 5) := by
              show _ = _
              have h1 := hall.out
              rw [hke, List.take_of_length_le (by simp)] at h1
              rw [HR3.out, if_pos h1]
            have HJ0' : Hid (wr.cell? ⟨w.heap.size, 0, none⟩ = some (.slice a1 m.vars.length c1)) := i0
            have HJ1' : Hid (wr.cell? ⟨w.heap.size, 1, none⟩ = some (.slice a2 m.cons.length c2)) := (HBW.out.cell (p := ⟨w.heap.size, 1, none⟩) HL2.out).trans HJ1.out
            have HLR : Hid (w.heap.size < wr.heap.size) := lr
            obtain ⟨W, hW⟩ : ∃ W : World, W = wr := ⟨_, rfl⟩
            rw [← hW] at HJ0' HJ1' HLR HBN ⊢
            clear hall hke i0 HR3 HJ0 HJ1 lr HBW hW
            go_wp2_with fail
            go_loopw [46] (fun i wx => ∃ k : Nat, k ≤ l.length ∧ i = .int .i64 k ∧ Hid ((l.take k).all (thereB m.cons.length) = true) ∧ Below W.heap.size W wx) (fun i _ => l.length - (intOf i).toNat)
            case atStart => exact ⟨0, by omega, rfl, rfl, Below.refl _ _⟩
            case round =>
              obtain ⟨k, hk, rfl, hall, hbw⟩ := hrel
              have HBW : Hid (Below W.heap.size W wr) := hbw
              have HBM : Hid (Below w.heap.size w wr) := HBN.out.trans (hbw.mono HBN.out.size)
              have i1 := (hbw.cell (p := ⟨w.heap.size, 1, none⟩) HLR.out).trans HJ1'.out
              have lr : w.heap.size < wr.heap.size := Nat.lt_of_lt_of_le HLR.out hbw.size
              clear hbw
              by_cases hlt : k < l.length
              · obtain ⟨t, ht⟩ : ∃ t, l[k]? = some t := ⟨l[k], by simp [hlt]⟩
                obtain ⟨b, off, x, hax, hb, q0, q1, q2, hxa⟩ := HST.out k t ht
                subst hax
                have hc0 := (HBM.out.cell (p := ⟨b, off + k * 3, none⟩) hb).trans q0
                have hc1 := (HBM.out.cell (p := ⟨b, off + k * 3 + 1, none⟩) hb).trans q1
                have hc2 := (HBM.out.cell (p := ⟨b, off + k * 3 + 2, none⟩) hb).trans q2
                obtain ⟨ax, cx, rfl, _, _⟩ := hxa
                have HT : Hid (l[k]? = some t) := ht
                have HB3 : Hid (∀ o, Below W.heap.size W (wr.alloc o)) := fun o => HBW.out.alloc HBW.out.size _
                have HN1 : Hid (thereB m.cons.length t = true → (l.take (k + 1)).all (thereB m.cons.length) = true) := fun hq => by rw [List.take_add_one, HT.out, List.all_append, hall.out]; simp [hq]
                have HN2 : Hid (thereB m.cons.length t = false → R = 5) := fun hq => by
                  have h5 : l.all (thereB m.cons.length) = false := by
                    cases h6 : l.all (thereB m.cons.length)
                    · rfl
                    · rw [List.all_eq_true.1 h6 t (List.mem_of_getElem? HT.out)] at hq; cases hq
                  rw [HR4.out, h5]; rfl
                clear ht q0 q1 q2 hb hall
                by_cases hk1 : t.kind = 1
                · have g1 : (t.kind == 1) = true := by simpa using hk1
                  by_cases hn0 : t.con < 0
                  · have HRF : Hid (R = 5) := HN2.out (by unfold thereB; simp [hk1, hn0])
                    clear hk1
                    go_wp2
                    go_ret
                    exact ⟨ret_int HRF.out.symm, HBM.out.alloc HBM.out.size _⟩
                  · by_cases hn1 : (m.cons.length : Int) ≤ t.con
                    · have HRF : Hid (R = 5) := HN2.out (by unfold thereB; simp [hk1, hn1])
                      clear hk1
                      go_wp2
                      go_ret
                      exact ⟨ret_int HRF.out.symm, HBM.out.alloc HBM.out.size _⟩
                    · have HN : Hid ((l.take (k + 1)).all (thereB m.cons.length) = true) := HN1.out (by unfold thereB; simp [hk1]; omega)
                      clear hk1 HN1 HN2
                      go_wp2
                      go_roundw
                      case rel => exact ⟨k + 1, by omega, by go_num, HN, HB3.out _⟩
                      case measure => simp [intOf]; omega
                · have g1 : (t.kind == 1) = false := by simpa using hk1
                  have HN : Hid ((l.take (k + 1)).all (thereB m.cons.length) = true) := HN1.out (by unfold thereB; simp [hk1])
                  clear hk1 HN1 HN2
                  go_wp2
                  go_roundw
                  case rel => exact ⟨k + 1, by omega, by go_num, HN, HB3.out _⟩
                  case measure => simp [intOf]; omega
              · have hke : k = l.length := by omega
                have HRF : Hid (R = 0) := by
                  show _ = _
                  have h1 := hall.out
                  rw [hke, List.take_of_length_le (Nat.le_refl _)] at h1
                  rw [HR4.out, h1]; rfl
                clear hall hke
                go_wp2
                go_ret
                exact ⟨ret_int HRF.out.symm, HBM.out⟩
      · have HRF : Hid (R = el) := by show _ = _; rw [HR2.out, if_neg hl0]
        have he2 : (el != 0) = true := by simpa using hl0
        clear hl0 HR2
        go_wp2
        go_ret
        exact ⟨ret_int HRF.out.symm, HB2.out⟩
  · have HRF : Hid (R = er) := by
      show _ = _
      rw [← HR.out]
      unfold stepsE
      rw [HER.out, if_neg he]
    have he2 : (er != 0) = true := by simpa using he
    clear he
    go_wp2
    go_ret
    exact ⟨ret_int HRF.out.symm, HB1.out⟩
end Go.Proofs.YtdjbejlbmaiocagGreatDoor
/-
  PLAIN: steps stay right with other clauses ahead of which those follow; what is proved of a searcher.
-/
namespace Go.Proofs.YtdjbejlbmaiocagGreatDoor

/-- A clause follows of clauses, one value after the other. -/
def Impl (G : List Nat) (c : Nat) : Prop := ∀ r, r < 2 ^ 36 → ClosedU G r → ClosedU [c] r
theorem impl_mem {G : List Nat} {c : Nat} (h : c ∈ G) : Impl G c := fun _ _ hg d hd => by rw [List.mem_singleton.1 hd]; exact hg c h
theorem impl_more {G H : List Nat} {c : Nat} (h : Impl G c) (hs : ∀ d ∈ G, d ∈ H) : Impl H c := fun r hr hg => h r hr (closed_mono hg hs)
theorem impl_trans {G H : List Nat} {c : Nat} (h : Impl G c) (hs : ∀ d ∈ G, Impl H d) : Impl H c := fun r hr hg => h r hr fun d hd => hs d hd r hr hg d (List.mem_singleton.2 rfl)
theorem fails_impl (vs : List MVar) (hv : VarsOk vs) (A B : List Nat) (h : Nat) (hs : ∀ c ∈ A, Impl B c) (hf : failsP vs A h = true) : failsP vs B h = true := by
  unfold failsP at *
  have h0 : unitsP vs A (lessN (wholeP vs) h) = 0 := by simpa using hf
  have h36 : lessN (wholeP vs) h < 2 ^ 36 := less_lt 36 _ _ (whole_lt vs hv)
  cases hb : (unitsP vs B (lessN (wholeP vs) h) == 0)
  · exfalso
    have hn : unitsP vs B (lessN (wholeP vs) h) ≠ 0 := by simpa using hb
    obtain ⟨k1, k2, k3⟩ := units_self vs B _ h36 hn
    have hle := units_le vs B (lessN (wholeP vs) h)
    have := units_closed vs _ (by omega) k1 A (fun c hc => hs c hc _ (by omega) k2 c (List.mem_singleton.2 rfl)) _ k3
    obtain ⟨i, hi⟩ := bit_of_ne hn
    have := this i hi
    rw [h0] at this
    simp at this
  · rfl
theorem right_impl (m : Mod) (hm : checkM m = 0) (A B : List Nat) (s : MStep) (hs : ∀ c ∈ A, Impl B c) (h : rightP m A s = true) : rightP m B s = true := by
  unfold rightP at h ⊢
  split
  · rename_i hk; rw [if_pos hk] at h; exact h
  · rename_i hk
    rw [if_neg hk] at h
    split
    · rename_i hk2
      rw [if_pos hk2] at h
      exact fails_impl m.vars (vars_okP m hm) A B _ hs h
    · rename_i hk2; rw [if_neg hk2] at h; cases h
theorem steps_impl (m : Mod) (hm : checkM m = 0) : ∀ (l : List MStep) (A B : List Nat), (∀ c ∈ A, Impl B c) → stepsP m A l = true → stepsP m B l = true
  | [], A, B, _, _ => rfl
  | s :: r, A, B, hs, h => by
    unfold stepsP at h ⊢
    rw [Bool.and_eq_true] at h ⊢
    refine ⟨right_impl m hm A B s hs h.1, steps_impl m hm r _ _ (fun c hc => ?_) h.2⟩
    rcases List.mem_append.1 hc with hc | hc
    · exact impl_more (hs c hc) fun d hd => List.mem_append_left _ hd
    · exact impl_mem (List.mem_append_right _ hc)
theorem steps_snoc (m : Mod) (s : MStep) : ∀ (l : List MStep) (A : List Nat), stepsP m A (l ++ [s]) = (stepsP m A l && rightP m (A ++ l.map fun t => heldP m.vars t.cla) s)
  | [], A => by simp [stepsP]
  | t :: r, A => by
    rw [List.cons_append]
    unfold stepsP
    rw [steps_snoc m s r, Bool.and_assoc]
    simp
/-- A clause within one of one variable says all that it does. -/
theorem impl_sub (c d : Nat) (f : Nat) (hcd : SubP c d) (hd : ∀ i, d.testBit i = true → i / 6 = f) : Impl [c] d := by
  intro r hr hg e he
  rw [List.mem_singleton.1 he]
  obtain ⟨h1, h2⟩ := hg c (List.mem_singleton.2 rfl)
  obtain ⟨i, hi⟩ := bit_of_ne h1
  obtain ⟨i1, i2⟩ := (and_bit _ _ _).1 hi
  have ct : ∀ q : Nat, (∀ j, q.testBit j = true → d.testBit j = true) → q ≠ 0 → q < 2 ^ 36 → lessN q (fieldP q) = 0 ∧ ∀ j, (fieldP q).testBit j = true ↔ j / 6 = f := fun q hq hq0 hq36 => by
    have hb := (low_bits q hq0 (by omega) (Lib.ctz 64 q)).2.1 rfl
    have h6 := hd _ (hq _ hb)
    refine ⟨(less_zero _ _).2 fun j hj => ?_, fun j => ?_⟩
    · rw [field_testBit, decide_eq_true_eq, hd j (hq j hj), h6]
    · rw [field_testBit, decide_eq_true_eq, h6]
  have hne : r &&& d ≠ 0 := fun h => by
    have := (and_bit r d i).2 ⟨i1, hcd i i2⟩
    rw [h] at this
    simp at this
  have hle1 : r &&& c ≤ r := Nat.and_le_left
  have hle2 : r &&& d ≤ r := Nat.and_le_left
  obtain ⟨c1, c2⟩ := ct (r &&& c) (fun j hj => hcd j ((and_bit _ _ _).1 hj).2) h1 (by omega)
  obtain ⟨_, d2⟩ := ct (r &&& d) (fun j hj => ((and_bit _ _ _).1 hj).2) hne (by omega)
  exact ⟨hne, fun _ j hj hf => hcd j (h2 c1 j hj ((c2 j).2 ((d2 j).1 hf)))⟩
/-- What is right of a searcher's proof, given clauses. -/
structure PrOk (m : Mod) (G : List Nat) (S : Sk) : Prop where
  stp : stepsP m G S.proof = true
  imp : ∀ c ∈ S.cs, Impl (G ++ S.proof.map fun t => heldP m.vars t.cla) c
  cla : ∀ s ∈ S.proof, claE m.vars s.cla = 0
  thr : ∀ s ∈ S.proof, thereB m.cons.length s = true
  non : ∀ s ∈ S.proof, heldP m.vars s.cla ≠ 0
  pth : ∀ l ∈ S.path, litE m.vars l = 0 ∧ ∀ c : Cla, l ∈ c → heldP m.vars c ≠ 0
/-- One more step that is right, if it is not there. -/
theorem prove_one (m : Mod) (G : List Nat) (P : List MStep) (t : MStep) (h1 : stepsP m G P = true) (ht : rightP m (G ++ P.map fun t => heldP m.vars t.cla) t = true) : stepsP m G (proveF m.vars [t] P) = true ∧ heldP m.vars t.cla ∈ (proveF m.vars [t] P).map (fun t => heldP m.vars t.cla) ∧ (∀ s ∈ P, s ∈ proveF m.vars [t] P) ∧ ∀ s ∈ proveF m.vars [t] P, s ∈ P ∨ s = t := by
  unfold proveF proveF
  split
  · rename_i hc
    refine ⟨h1, ?_, fun s hs => hs, fun s hs => Or.inl hs⟩
    simpa using hc
  · refine ⟨by rw [steps_snoc, h1, ht]; rfl, ?_, fun s hs => List.mem_append_left _ hs, fun s hs => ?_⟩
    · rw [List.map_append]
      exact List.mem_append_right _ (List.mem_singleton.2 rfl)
    · rcases List.mem_append.1 hs with hs | hs
      · exact Or.inl hs
      · exact Or.inr (List.mem_singleton.1 hs)
theorem proveF_cons (vs : List MVar) (t : MStep) (r P : List MStep) : proveF vs (t :: r) P = proveF vs r (proveF vs [t] P) := rfl
theorem proveF_app (vs : List MVar) : ∀ (a b P : List MStep), proveF vs (a ++ b) P = proveF vs b (proveF vs a P)
  | [], b, P => rfl
  | t :: r, b, P => by rw [List.cons_append, proveF_cons, proveF_app vs r b, ← proveF_cons]
/-- Steps that are right whatever stands ahead. -/
theorem prove_many (m : Mod) (G : List Nat) : ∀ (l P : List MStep), (∀ t ∈ l, ∀ A, rightP m A t = true) → stepsP m G P = true → stepsP m G (proveF m.vars l P) = true ∧ (∀ t ∈ l, heldP m.vars t.cla ∈ (proveF m.vars l P).map (fun t => heldP m.vars t.cla)) ∧ (∀ s ∈ P, s ∈ proveF m.vars l P) ∧ ∀ s ∈ proveF m.vars l P, s ∈ P ∨ s ∈ l
  | [], P, _, h => ⟨h, fun t ht => (by cases ht), fun s hs => hs, fun s hs => Or.inl hs⟩
  | t :: r, P, hr, h => by
    rw [proveF_cons]
    obtain ⟨a1, a2, a3, a4⟩ := prove_one m G P t h (hr t (List.mem_cons_self ..) _)
    obtain ⟨b1, b2, b3, b4⟩ := prove_many m G r (proveF m.vars [t] P) (fun x hx => hr x (List.mem_cons_of_mem _ hx)) a1
    refine ⟨b1, fun x hx => ?_, fun s hs => b3 s (a3 s hs), fun s hs => ?_⟩
    · rcases List.mem_cons.1 hx with rfl | hx
      · obtain ⟨y, hy, he⟩ := List.mem_map.1 a2
        exact List.mem_map.2 ⟨y, b3 y hy, he⟩
      · exact b2 x hx
    · rcases b4 s hs with h1 | h1
      · rcases a4 s h1 with h2 | h2
        · exact Or.inl h2
        · exact Or.inr (h2 ▸ List.mem_cons_self ..)
      · exact Or.inr (List.mem_cons_of_mem _ h1)
end Go.Proofs.YtdjbejlbmaiocagGreatDoor
/-
  MEMORY: lists of parts.
-/
namespace Go.Proofs.YtdjbejlbmaiocagGreatDoor
open Go.RowKit

/-- Lists of parts, one for each constraint. -/
def PPArg (w : World) (v : Value) (pt : List (List Nat)) : Prop :=
  ∃ a c, v = .slice a pt.length c ∧ (pt.length ≤ c ∧ c ≤ maxLen) ∧ ∀ (i : Nat) (pts : List Nat), pt[i]? = some pts → ∃ b off x, a = some ⟨b, off, none⟩ ∧ b < w.heap.size ∧ w.cell? ⟨b, off + i, none⟩ = some x ∧ PArg w x pts
theorem PPArg.below {w w' : World} {v : Value} {pt : List (List Nat)} (hb : Below w.heap.size w w') (h : PPArg w v pt) : PPArg w' v pt := by
  obtain ⟨a, c, hv, hm, hr⟩ := h
  refine ⟨a, c, hv, hm, fun i z hz => ?_⟩
  obtain ⟨b, off, x, ha, hlt, hc, hx⟩ := hr i z hz
  exact ⟨b, off, x, ha, Nat.lt_of_lt_of_le hlt hb.size, (hb.cell (p := ⟨b, off + i, none⟩) hlt).trans hc, PArg.below hb hx⟩
end Go.Proofs.YtdjbejlbmaiocagGreatDoor
/-
  A walk along a proof: how it lies in memory. WALK: package proof: its closure.
-/
namespace Go.Proofs.YtdjbejlbmaiocagGreatDoor
open Go.RowKit

/-- A walk: the model, its constraints' points, what stands ahead. -/
def WalkS (N bm bp ba : Nat) (m : Mod) (vs cs pv : Value) (ahead : List Nat) (w : World) : Prop :=
  (N ≤ ba ∧ N ≤ w.heap.size) ∧
  Old N w (fun u => MArg u vs cs m ∧ PPArg u pv (m.cons.map (pointsP m.vars)) ∧ u.cell? ⟨bm, 0, none⟩ = some vs ∧ u.cell? ⟨bp, 0, none⟩ = some pv ∧ TabT u) ∧
  (∀ z ∈ ahead, z < 2 ^ 36) ∧
  ∃ av, w.ownsRow N 180 1 (.slice (some ⟨ba, 0, none⟩) 1 1) 1 [av] ∧ w.ownsRow N 183 1 av ahead.length (u64s ahead) ∧ av.ownBlock ≠ some ba
section
variable {N bm bp ba : Nat} {m : Mod} {vs cs pv : Value} {ahead : List Nat} {w w' : World}
theorem WalkS.below (h : WalkS N bm bp ba m vs cs pv ahead w) (hb : Below w.heap.size w w') : WalkS N bm bp ba m vs cs pv ahead w' := by
  obtain ⟨⟨h1, h2⟩, h3, h4, av, h5, h6, h7⟩ := h
  exact ⟨⟨h1, Nat.le_trans h2 hb.size⟩, h3.below (hb.mono h2), h4, av, own_below h5 hb, own_below h6 hb, h7⟩
theorem WalkS.old (h : WalkS N bm bp ba m vs cs pv ahead w) : MArg w vs cs m ∧ PPArg w pv (m.cons.map (pointsP m.vars)) ∧ w.cell? ⟨bm, 0, none⟩ = some vs ∧ w.cell? ⟨bp, 0, none⟩ = some pv ∧ TabT w ∧ bm < w.heap.size ∧ bp < w.heap.size := by
  obtain ⟨_, ⟨w0, g0, ⟨g1, g2, g3, g4, g5⟩, gb⟩, _⟩ := h
  have l1 := World.block_lt_of_cell? w0 _ g3
  have l2 := World.block_lt_of_cell? w0 _ g4
  have hs := gb.size
  simp only at l1 l2
  exact ⟨MArg.below gb g1, PPArg.below gb g2, (gb.cell (p := ⟨bm, 0, none⟩) l1).trans g3, (gb.cell (p := ⟨bp, 0, none⟩) l2).trans g4, g5.below gb, by omega, by omega⟩
theorem WalkS.put {z : Nat} {v3 av : Value} {w2 : World} (h : WalkS N bm bp ba m vs cs pv ahead w) (hz : z < 2 ^ 36) (ho : w.ownsRow N 180 1 (.slice (some ⟨ba, 0, none⟩) 1 1) 1 [av]) (hr : w.ownsRow N 183 1 av ahead.length (u64s ahead)) (hne : av.ownBlock ≠ some ba)
    (hw : w2.ownsRow N 183 1 v3 (ahead ++ [z]).length (u64s (ahead ++ [z]))) (hg : w.grownBy w2 av.ownBlock) :
    WalkS N bm bp ba m vs cs pv (ahead ++ [z]) (w2.setCell ⟨ba, 0, none⟩ v3) ∧ Below N w (w2.setCell ⟨ba, 0, none⟩ v3) := by
  obtain ⟨⟨h1, h2⟩, h3, h4, _⟩ := h
  have hb1 : Below N w w2 := (Below.refl _ _).grown hg h2 (fun k hk => (hr.lt k hk).1)
  have hb : Below N w (w2.setCell ⟨ba, 0, none⟩ v3) := hb1.setCell h1 _
  have hba : ba < w.heap.size := (ho.lt ba rfl).2
  have h6 : w2.ownsRow N 180 1 (.slice (some ⟨ba, 0, none⟩) 1 1) 1 [av] := ho.kept hg (Or.inr fun he => hne he.symm)
  have hvb : v3.ownBlock ≠ some ba := by
    intro he
    rcases hw.2 with ⟨hq, _⟩ | ⟨g, cap, cur, hq, _, hh, _⟩
    · rw [hq] at he; cases he
    · rw [hq] at he
      cases he
      rcases h6.2 with ⟨hq2, _⟩ | ⟨g2, cap2, cur2, hq2, _, hh2, _⟩
      · cases hq2
      · cases hq2
        rw [hh] at hh2
        injection hh2 with h9
        injection h9 with _ h8
        exact absurd h8 (by decide)
  refine ⟨⟨⟨h1, Nat.le_trans h2 hb.size⟩, h3.below hb, fun y hy => ?_, v3, (h6.stored 0 v3).1, own_at hw fun g hgg => ?_, hvb⟩, hb⟩
  · rcases List.mem_append.1 hy with h | h
    · exact h4 y h
    · rw [List.mem_singleton.1 h]; exact hz
  · exact Below.heap_setCell _ _ _ _ (fun h => hvb (by rw [hgg]; exact congrArg some h))
end

set_option maxHeartbeats 3200000 in
set_option maxRecDepth 100000 in
theorem wstep_any (N bm bp ba : Nat) (m : Mod) (vs cs pv u : Value) (ahead : List Nat) (s : MStep) (w : World) (hm : checkM m = 0) (hT : WalkS N bm bp ba m vs cs pv ahead w) (hu : LArg w u s.cla) (hk : s.kind = 1 → 0 ≤ s.con ∧ s.con < (m.cons.length : Int)) (hbud : ahead.length ≤ 100000) :
    Calls Tryz.prog 143 #[.agg #[.int .i64 s.kind, .int .i64 s.con, u], .pointer (some ⟨bm, 0, none⟩), .pointer (some ⟨bp, 0, none⟩), .pointer (some ⟨ba, 0, none⟩)] w fun e w' => e = .returned (.bool (rightP m ahead s)) ∧
      WalkS N bm bp ba m vs cs pv (ahead ++ [heldP m.vars s.cla]) w' ∧ Below N w w' := by
  have HM : Hid (checkM m = 0) := hm
  have HK : Hid (s.kind = 1 → 0 ≤ s.con ∧ s.con < (m.cons.length : Int)) := hk
  have HN : Hid (N ≤ w.heap.size) := hT.1.2
  obtain ⟨hma, hpp, d0, d1, htab, lm, lp⟩ := hT.old
  have HMA : Hid (∀ w', Below w.heap.size w w' → MArg w' vs cs m) := fun w' h => MArg.below h hma
  have HPP : Hid (∀ w', Below w.heap.size w w' → PPArg w' pv (m.cons.map (pointsP m.vars))) := fun w' h => PPArg.below h hpp
  have HTB : Hid (∀ w', Below w.heap.size w w' → TabT w') := fun w' h => htab.below h
  have HU : Hid (∀ w', Below w.heap.size w w' → LArg w' u s.cla) := fun w' h => LArg.below h hu
  have HT : Hid (∀ w', Below w.heap.size w w' → WalkS N bm bp ba m vs cs pv ahead w') := fun w' h => hT.below h
  obtain ⟨⟨a1, c1, rfl, _, _⟩, ⟨a2, c2, rfl, _, _⟩⟩ := hma
  obtain ⟨a3, c3, rfl, _, _⟩ := hu
  obtain ⟨a4, c4, hpv, hm4, _⟩ := hpp
  rw [List.length_map] at hpv hm4
  unfold maxLen at hm4
  obtain ⟨hm41, hm4⟩ := hm4
  subst hpv
  obtain ⟨i0, hi, hz0, hz1, hz2⟩ := info_parts Tryz.infoPart
  obtain ⟨h, hh⟩ : ∃ h, heldP m.vars s.cla = h := ⟨_, rfl⟩
  have HH : Hid (heldP m.vars s.cla = h) := hh
  have HH36 : Hid (h < 2 ^ 36) := by rw [← hh]; exact held_lt m hm s.cla
  obtain ⟨R, hR⟩ : ∃ R, rightP m ahead s = R := ⟨_, rfl⟩
  have HR : Hid (R = if s.kind = 1 then saysP m.vars (pointsP m.vars (m.cons.getD s.con.toNat noCon)) h else if s.kind = 2 ∧ s.con = 0 then failsP m.vars ahead h else false) := by show _ = _; rw [← hR, ← hh]; rfl
  rw [hR, hh]
  clear hT hm hk htab hh hR
  go_enter Tryz.func143, Tryz.ntmps143
  go_wp2_with fail
  refine (held_any m.vars (vars_all m HM.out) s.cla _ _ _ (HMA.out _ (below_alloc _ _)).1 (HU.out _ (below_alloc _ _))).mono ?_
  rintro e w1 ⟨rfl, hb1⟩
  rw [HH.out]
  have HB1 : Hid (Below w.heap.size w w1) := (below_alloc _ _).trans (hb1.mono (by simp))
  have l1 : w.heap.size < w1.heap.size := by have := hb1.size; simp at this; omega
  have k0 : w1.cell? ⟨w.heap.size, 0, none⟩ = some (.int .i64 s.kind) := (hb1.cell (by simp)).trans (World.cell?_alloc_at _ _ _ 0 (by simp))
  have k1 : w1.cell? ⟨w.heap.size, 1, none⟩ = some (.int .i64 s.con) := (hb1.cell (by simp)).trans (World.cell?_alloc_at _ _ _ 1 (by simp))
  have d0' := (HB1.out.cell (p := ⟨bm, 0, none⟩) lm).trans d0
  have d1' := (HB1.out.cell (p := ⟨bp, 0, none⟩) lp).trans d1
  have lm1 : bm < w1.heap.size := by omega
  have lp1 : bp < w1.heap.size := by omega
  clear hb1 d0 d1 lm lp
  go_upto_block 0 with (fail)
  go_cut [7] (fun v wx => v = .bool R ∧ Hid (Below w1.heap.size w1 wx))
  case first =>
    have HS2 : Hid (w1.heap.size = w1.heap.size) := rfl
    by_cases hk1 : s.kind = 1
    · obtain ⟨hn0, hn1⟩ := HK.out hk1
      obtain ⟨j, hj⟩ : ∃ j : Nat, s.con = (j : Int) := ⟨s.con.toNat, by omega⟩
      have hjl : j < m.cons.length := by omega
      obtain ⟨k, hkk⟩ : ∃ k, m.cons[j]? = some k := ⟨m.cons[j], by simp [hjl]⟩
      have HRF : Hid (R = saysP m.vars (pointsP m.vars k) h) := by
        show _ = _
        rw [HR.out, if_pos hk1, hj, Int.toNat_natCast, List.getD_eq_getElem?_getD, hkk]; rfl
      rw [hj] at k1
      have g1 : (s.kind == 1) = true := by simpa using hk1
      obtain ⟨a', c', hv', _, hrr⟩ := HPP.out w1 HB1.out
      obtain ⟨b4, o4, x, hax, hb4, hc4, hpx⟩ := hrr j (pointsP m.vars k) (by rw [List.getElem?_map, hkk]; rfl)
      have ha4 : a4 = some ⟨b4, o4, none⟩ := by injection hv' with e1; exact e1.trans hax
      clear hv' hrr hax
      subst ha4
      have HPX : Hid (∀ Y, Below w1.heap.size w1 Y → PArg Y x (pointsP m.vars k)) := fun Y hY => PArg.below hY hpx
      obtain ⟨ax, cx, rfl, _, _⟩ := hpx
      have HSA : Hid (∀ Y, Below w1.heap.size w1 Y → Calls Tryz.prog 126 #[.slice a1 m.vars.length c1, .slice ax (pointsP m.vars k).length cx, .int .u64 (h : Int)] Y fun e w' => e = .returned (.bool (saysP m.vars (pointsP m.vars k) h)) ∧ Below Y.heap.size Y w') := fun Y hY =>
        says_any m.vars (vars_all m HM.out) _ _ HH36.out _ _ Y (HMA.out _ (HB1.out.trans (hY.mono HB1.out.size))).1 (HPX.out _ hY)
      clear hk1 hkk hj hn0 hn1 HR
      go_wp2_with fail
      go_region_held3 (fun w' => Below w1.heap.size w1 w' ∧ w'.cell? ⟨bm, 0, none⟩ = some (.slice a1 m.vars.length c1) ∧ w'.cell? ⟨bp, 0, none⟩ = some (.slice (some ⟨b4, o4, none⟩) m.cons.length c4) ∧ w'.cell? ⟨w.heap.size, 1, none⟩ = some (.int .i64 (j : Int)) ∧ w'.cell? ⟨b4, o4 + j, none⟩ = some (.slice ax (pointsP m.vars k).length cx))
        ((refine (fun (hB : Below w1.heap.size w1 _) => ⟨hB, (hB.cell (p := ⟨bm, 0, none⟩) lm1).trans d0', (hB.cell (p := ⟨bp, 0, none⟩) lp1).trans d1', (hB.cell (p := ⟨w.heap.size, 1, none⟩) l1).trans k1, (hB.cell (p := ⟨b4, o4 + j, none⟩) hb4).trans hc4⟩ : Below w1.heap.size w1 _ → _) ?_; first | exact (Below.refl _ _).drew | exact fen_call (by assumption) hbq))
        (first
          | (go_at_call 126; refine (HSA.out _ (show Below w1.heap.size w1 _ ∧ _ by assumption).1).mono ?_; rintro e w5 ⟨rfl, hbq⟩; have hB5 := fen_call (by assumption) hbq))
      have HB5 : Hid (Below w1.heap.size w1 w5) := hB5
      go_wp2_with fail
      go_meet
      exact ⟨by rw [HRF.out], HB5⟩
    · have g1 : (s.kind == 1) = false := by simpa using hk1
      by_cases hk2 : s.kind = 2 ∧ s.con = 0
      · have HRF : Hid (R = failsP m.vars ahead h) := by show _ = _; rw [HR.out, if_neg hk1, if_pos hk2]
        have g2 : (s.kind == 2) = true := by simpa using hk2.1
        have g3 : (s.con == 0) = true := by simpa using hk2.2
        obtain ⟨⟨hNb, hNs⟩, _, h36, av, ho, hr, hne⟩ := HT.out w1 HB1.out
        have HPA : Hid (PArg w1 av ahead) := own_parts hr h36
        obtain ⟨aa, ca, rfl⟩ := own_form hr
        have hca : w1.cell? ⟨ba, 0, none⟩ = some (.slice aa ahead.length ca) := ho.cellAt 0 (by omega)
        have lba : ba < w1.heap.size := (ho.lt ba rfl).2
        clear hk1 hk2 HR ho hr hne h36
        go_wp2_with fail
        refine (fails_any m.vars (vars_all m HM.out) (checkM_vars m HM.out).1 ahead h HH36.out _ _ _ (HMA.out _ HB1.out).1 HPA.out (HTB.out _ HB1.out)).mono ?_
        rintro e w5 ⟨rfl, hb5⟩
        have HB5 : Hid (Below w1.heap.size w1 w5) := hb5
        clear hb5
        go_wp2_with fail
        go_meet
        exact ⟨by rw [HRF.out], HB5⟩
      · have HRF : Hid (R = false) := by show _ = _; rw [HR.out, if_neg hk1, if_neg hk2]
        by_cases hk3 : s.kind = 2
        · have g2 : (s.kind == 2) = true := by simpa using hk3
          have g3 : (s.con == 0) = false := by
            have : s.con ≠ 0 := fun h0 => hk2 ⟨hk3, h0⟩
            simpa using this
          clear hk1 hk2 hk3 HR
          go_wp2_with fail
          go_meet
          exact ⟨by rw [HRF.out], Below.refl _ _⟩
        · have g2 : (s.kind == 2) = false := by simpa using hk3
          clear hk1 hk2 hk3 HR
          go_wp2_with fail
          go_meet
          exact ⟨by rw [HRF.out], Below.refl _ _⟩
  case rest =>
    obtain ⟨hv, hbc⟩ := hcut
    subst hv
    have HBC : Hid (Below w.heap.size w wc) := HB1.out.trans (hbc.out.mono HB1.out.size)
    have HTC : Hid (WalkS N bm bp ba m (.slice a1 m.vars.length c1) (.slice a2 m.cons.length c2) (.slice a4 m.cons.length c4) ahead wc) := HT.out wc HBC.out
    obtain ⟨⟨hNb, hNs⟩, _, _, av, ho, hr, hne⟩ := HTC.out
    obtain ⟨aa, ca, rfl⟩ := own_form hr
    have hca : wc.cell? ⟨ba, 0, none⟩ = some (.slice aa ahead.length ca) := ho.cellAt 0 (by omega)
    have lba : ba < wc.heap.size := (ho.lt ba rfl).2
    clear d0' d1' k0 k1 l1 lm1 lp1
    go_wp2_with (at_builtin; refine wpList_append_own _ rfl _ _ 180 rfl N 183 i0 (.int .u64 0) 1 8 Tryz.underlying180 hi hz0 hz1 hz2 rfl (by decide) _ _ _ rfl (hr.alloc _) ⟨wc.heap.size, 0, none⟩ 1 1 [.int .u64 (h : Int)] rfl rfl ?c1 ?c2 ?c3 ?c4 ?c5 ?_)
    case c1 => exact part_laid wc h
    case c2 => intro u hu; rcases List.mem_singleton.1 hu with rfl; rfl
    case c3 => unfold maxLen; omega
    case c4 => omega
    case c5 => simp; omega
    intro v3 w3 hown3 hgrow _
    have hown4 : w3.ownsRow N 183 1 v3 (ahead ++ [h]).length (u64s (ahead ++ [h])) := by
      unfold u64s
      rw [List.length_append, List.map_append]; exact hown3
    have HPUT := (HTC.out.below (below_alloc _ _)).put HH36.out (ho.alloc _) (hr.alloc _) hne hown4 hgrow
    have HP : Hid (WalkS N bm bp ba m (.slice a1 m.vars.length c1) (.slice a2 m.cons.length c2) (.slice a4 m.cons.length c4) (ahead ++ [h]) (w3.setCell ⟨ba, 0, none⟩ v3)) := HPUT.1
    have HB4 : Hid (Below N w (w3.setCell ⟨ba, 0, none⟩ v3)) := (HBC.out.mono HN.out).trans (((Below.refl _ _).alloc hNs _).trans HPUT.2)
    have ht3 : w3.ownsRow N 180 1 (.slice (some ⟨ba, 0, none⟩) 1 1) 1 [.slice aa ahead.length ca] := (ho.alloc _).kept hgrow (Or.inr (fun h => hne h.symm))
    have hcB : w3.cell? ⟨ba, 0, none⟩ = some (.slice aa ahead.length ca) := ht3.cellAt 0 (by omega)
    have hfB : w3.frozen? ⟨ba, 0, none⟩ = false := ht3.frozenAt 0
    obtain ⟨av', cv', rfl⟩ := own_form hown4
    rw [show (ahead ++ [h]).length = ahead.length + 1 by simp] at HP HB4
    clear hown3 hgrow hown4 hr ho hca ht3 HPUT hne
    go_wp2
    go_ret
    exact ⟨rfl, HP.out, HB4.out⟩
end Go.Proofs.YtdjbejlbmaiocagGreatDoor
/-
  WALK: package proof: walk.
-/
namespace Go.Proofs.YtdjbejlbmaiocagGreatDoor
open Go.RowKit

theorem Tryz.infoParts : (Tryz.prog.info? 180).map (fun i => (i.zero, i.size, i.bytes)) = some (some (.slice none 0 0), 1, 24) := by kernel_rfl
theorem Tryz.underPartss : Tryz.prog.underlying 198 = some (.slice 180) := by kernel_rfl
theorem rows_own (w : World) (n base : Nat) (hn : n ≤ 1000) (hb : base ≤ w.heap.size) : (w.alloc (.cells (madeCells #[.slice none 0 0] n) 180)).ownsRow base 180 1 (.slice (some ⟨w.heap.size, 0, none⟩) n n) n (List.replicate n (.slice none 0 0)) := by
  refine ⟨by simp, Or.inr ⟨w.heap.size, n, _, rfl, hb, heap_alloc_new w _, Nat.le_refl _, by unfold maxLen; omega, ?_, ?_⟩⟩
  · have h := congrArg List.length (toList_madeCells_one (.slice none 0 0) n)
    simp at h
    simpa using h
  · rw [toList_madeCells_one]
    simp
/-- Points, constraint by constraint: a row whose first cells lead to them. -/
def PtsRow (B n : Nat) (cells : List Value) (l : List (List Nat)) (k : Nat) (w : World) : Prop :=
  w.ownsRow B 180 1 (.slice (some ⟨B, 0, none⟩) n n) n cells ∧ ∀ j r, j < k → l[j]? = some r → ∃ x, cells[j]? = some x ∧ w.ownsRow (B + 1) 183 1 x r.length (u64s r)
theorem PtsRow.below {B n k : Nat} {cells : List Value} {l : List (List Nat)} {w w' : World} (h : PtsRow B n cells l k w) (hb : Below w.heap.size w w') : PtsRow B n cells l k w' := by
  refine ⟨own_below h.1 hb, fun j r hj hr => ?_⟩
  obtain ⟨x, h1, h2⟩ := h.2 j r hj hr
  exact ⟨x, h1, own_below h2 hb⟩
theorem PtsRow.put {B n k : Nat} {cells : List Value} {l : List (List Nat)} {w : World} {x : Value} {r : List Nat} (h : PtsRow B n cells l k w) (hk : k < n) (hr : l[k]? = some r) (hx : w.ownsRow (B + 1) 183 1 x r.length (u64s r)) : PtsRow B n (cells.set k x) l (k + 1) (w.setCell ⟨B, k, none⟩ x) := by
  have hlen : cells.length = n := by have := h.1.1; omega
  have keep : ∀ {y : Value} {q : List Nat}, w.ownsRow (B + 1) 183 1 y q.length (u64s q) → (w.setCell ⟨B, k, none⟩ x).ownsRow (B + 1) 183 1 y q.length (u64s q) := fun hy =>
    own_at hy fun g hg => Below.heap_setCell _ _ _ _ (fun he => by have := (hy.lt g hg).1; simp only at he; omega)
  refine ⟨(h.1.stored k x).1, fun j q hj hq => ?_⟩
  by_cases hjk : j = k
  · subst hjk
    rw [hr] at hq
    cases hq
    exact ⟨x, by rw [List.getElem?_set_self (by omega)], keep hx⟩
  · obtain ⟨y, h1, h2⟩ := h.2 j q (by omega) hq
    exact ⟨y, by rw [List.getElem?_set_ne (fun h => hjk h.symm)]; exact h1, keep h2⟩
theorem PtsRow.arg {B n : Nat} {cells : List Value} {l : List (List Nat)} {w : World} (h : PtsRow B n cells l n w) (hl : l.length = n) (hlt : ∀ r ∈ l, ∀ z ∈ r, z < 2 ^ 36) (hn : n ≤ 1000) : PPArg w (.slice (some ⟨B, 0, none⟩) n n) l := by
  refine ⟨_, n, by rw [hl], ⟨by omega, by unfold maxLen; omega⟩, fun i r hr => ?_⟩
  have hi : i < n := by rw [← hl]; exact (List.getElem?_eq_some_iff.1 hr).1
  obtain ⟨x, h1, h2⟩ := h.2 i r hi hr
  exact ⟨B, 0, x, rfl, (h.1.lt B rfl).2, by rw [Nat.zero_add, h.1.cellAt i (by omega)]; exact h1, own_parts h2 (hlt r (List.mem_of_getElem? hr))⟩

set_option maxHeartbeats 3200000 in
set_option maxRecDepth 100000 in
theorem walk_any (m : Mod) (hm : checkM m = 0) (given : List Cla) (hg6 : given.length ≤ 600) (vs cs u : Value) (w : World) (hma : MArg w vs cs m) (hu : LLArg w u given) (hT : TabT w) :
    Calls Tryz.prog 81 #[modV vs cs m, u] w fun e w' => ∃ N bm bp ba pv, e = .returned (.func (.func 143) #[] #[.pointer (some ⟨bm, 0, none⟩), .pointer (some ⟨bp, 0, none⟩), .pointer (some ⟨ba, 0, none⟩)]) ∧
      WalkS N bm bp ba m vs cs pv (given.map (heldP m.vars)) w' ∧ w.heap.size ≤ N ∧ Below w.heap.size w w' := by
  have HMA : Hid (∀ w', Below w.heap.size w w' → MArg w' vs cs m) := fun w' h => MArg.below h hma
  have HU : Hid (∀ w', Below w.heap.size w w' → LLArg w' u given) := fun w' h => LLArg.below h hu
  have HT : Hid (∀ w', Below w.heap.size w w' → TabT w') := fun w' h => hT.below h
  have HM : Hid (checkM m = 0) := hm
  have hc8 : m.cons.length ≤ 8 := (checkM_vars m hm).2.2.1
  have hmk := run_make_row' (P := Tryz.prog) 198 180 (.slice none 0 0) 24 Tryz.underPartss Tryz.infoParts rfl .i64 .i64 m.cons.length (by omega) (by omega)
  obtain ⟨⟨a1, c1, rfl, _, _⟩, ⟨a2, c2, rfl, hm2, _⟩⟩ := hma
  unfold maxLen at hm2
  obtain ⟨hm21, hm2⟩ := hm2
  obtain ⟨a3, c3, rfl, _, _⟩ := hu
  unfold modV
  clear hm hT
  go_enter Tryz.func81, Tryz.ntmps81
  go_wp2_with fail
  clear hmk
  have HB0 : Hid (Below w.heap.size w (((w.alloc (.cells #[.slice a1 m.vars.length c1, .slice a2 m.cons.length c2, .int .i64 m.goal, .int .i64 m.var] 25)).alloc (.cells (madeCells #[.slice none 0 0] m.cons.length) 180)).alloc (.cells #[.slice (some ⟨w.heap.size + 1, 0, none⟩) m.cons.length m.cons.length] 198))) := ((below_alloc _ _).alloc (by simp) _).alloc (by simp; omega) _
  have HQ : Hid ((((w.alloc (.cells #[.slice a1 m.vars.length c1, .slice a2 m.cons.length c2, .int .i64 m.goal, .int .i64 m.var] 25)).alloc (.cells (madeCells #[.slice none 0 0] m.cons.length) 180)).alloc (.cells #[.slice (some ⟨w.heap.size + 1, 0, none⟩) m.cons.length m.cons.length] 198)).cell? ⟨w.heap.size, 0, none⟩ = some (.slice a1 m.vars.length c1) ∧ (((w.alloc (.cells #[.slice a1 m.vars.length c1, .slice a2 m.cons.length c2, .int .i64 m.goal, .int .i64 m.var] 25)).alloc (.cells (madeCells #[.slice none 0 0] m.cons.length) 180)).alloc (.cells #[.slice (some ⟨w.heap.size + 1, 0, none⟩) m.cons.length m.cons.length] 198)).cell? ⟨w.heap.size, 1, none⟩ = some (.slice a2 m.cons.length c2) ∧ (((w.alloc (.cells #[.slice a1 m.vars.length c1, .slice a2 m.cons.length c2, .int .i64 m.goal, .int .i64 m.var] 25)).alloc (.cells (madeCells #[.slice none 0 0] m.cons.length) 180)).alloc (.cells #[.slice (some ⟨w.heap.size + 1, 0, none⟩) m.cons.length m.cons.length] 198)).cell? ⟨w.heap.size, 2, none⟩ = some (.int .i64 m.goal) ∧ (((w.alloc (.cells #[.slice a1 m.vars.length c1, .slice a2 m.cons.length c2, .int .i64 m.goal, .int .i64 m.var] 25)).alloc (.cells (madeCells #[.slice none 0 0] m.cons.length) 180)).alloc (.cells #[.slice (some ⟨w.heap.size + 1, 0, none⟩) m.cons.length m.cons.length] 198)).cell? ⟨w.heap.size, 3, none⟩ = some (.int .i64 m.var)) := by
    refine ⟨?_, ?_, ?_, ?_⟩
    all_goals rw [World.cell?_alloc_past _ _ _ (by simp; omega), World.cell?_alloc_past _ _ _ (by simp)]
    · exact World.cell?_alloc_at _ _ _ 0 (by simp)
    · exact World.cell?_alloc_at _ _ _ 1 (by simp)
    · exact World.cell?_alloc_at _ _ _ 2 (by simp)
    · exact World.cell?_alloc_at _ _ _ 3 (by simp)
  have HQP : Hid ((((w.alloc (.cells #[.slice a1 m.vars.length c1, .slice a2 m.cons.length c2, .int .i64 m.goal, .int .i64 m.var] 25)).alloc (.cells (madeCells #[.slice none 0 0] m.cons.length) 180)).alloc (.cells #[.slice (some ⟨w.heap.size + 1, 0, none⟩) m.cons.length m.cons.length] 198)).cell? ⟨w.heap.size + 1 + 1, 0, none⟩ = some (.slice (some ⟨w.heap.size + 1, 0, none⟩) m.cons.length m.cons.length)) := World.cell?_alloc_at _ _ _ 0 (by simp)
  have HO0 : Hid (PtsRow (w.heap.size + 1) m.cons.length (List.replicate m.cons.length (.slice none 0 0)) (m.cons.map (pointsP m.vars)) 0 (((w.alloc (.cells #[.slice a1 m.vars.length c1, .slice a2 m.cons.length c2, .int .i64 m.goal, .int .i64 m.var] 25)).alloc (.cells (madeCells #[.slice none 0 0] m.cons.length) 180)).alloc (.cells #[.slice (some ⟨w.heap.size + 1, 0, none⟩) m.cons.length m.cons.length] 198))) := by
    refine ⟨?_, fun j r hj => by omega⟩
    have h := (rows_own (w.alloc (.cells #[.slice a1 m.vars.length c1, .slice a2 m.cons.length c2, .int .i64 m.goal, .int .i64 m.var] 25)) m.cons.length (w.heap.size + 1) (by omega) (by simp)).alloc (.cells #[.slice (some ⟨w.heap.size + 1, 0, none⟩) m.cons.length m.cons.length] 198)
    simpa using h
  have HS0 : Hid ((((w.alloc (.cells #[.slice a1 m.vars.length c1, .slice a2 m.cons.length c2, .int .i64 m.goal, .int .i64 m.var] 25)).alloc (.cells (madeCells #[.slice none 0 0] m.cons.length) 180)).alloc (.cells #[.slice (some ⟨w.heap.size + 1, 0, none⟩) m.cons.length m.cons.length] 198)).heap.size = w.heap.size + 3) := by show _ = _; simp
  obtain ⟨W, hW⟩ : ∃ W, (((w.alloc (.cells #[.slice a1 m.vars.length c1, .slice a2 m.cons.length c2, .int .i64 m.goal, .int .i64 m.var] 25)).alloc (.cells (madeCells #[.slice none 0 0] m.cons.length) 180)).alloc (.cells #[.slice (some ⟨w.heap.size + 1, 0, none⟩) m.cons.length m.cons.length] 198)) = W := ⟨_, rfl⟩
  rw [hW] at HB0 HQ HQP HO0 HS0 ⊢
  clear hW
  obtain ⟨L, hL⟩ : ∃ L, m.cons.map (pointsP m.vars) = L := ⟨_, rfl⟩
  have HL : Hid (m.cons.map (pointsP m.vars) = L) := hL
  rw [hL] at HO0
  clear hL
  go_loopw [15] (fun i wr => ∃ (k : Nat) (cells : List Value), k ≤ m.cons.length ∧ i = .int .i64 k ∧ Hid (PtsRow (w.heap.size + 1) m.cons.length cells L k wr) ∧ Hid (Below (w.heap.size + 1) W wr) ∧ Hid (wr.cell? ⟨w.heap.size + 1 + 1, 0, none⟩ = some (.slice (some ⟨w.heap.size + 1, 0, none⟩) m.cons.length m.cons.length))) (fun i _ => m.cons.length - (intOf i).toNat)
  case atStart => exact ⟨0, _, by omega, rfl, HO0, Below.refl _ _, HQP⟩
  case round =>
    obtain ⟨k, cells, hk, rfl, HROW, HBW, HCP⟩ := hrel
    have HBN : Hid (Below w.heap.size w wr) := HB0.out.trans (HBW.out.mono (by omega))
    have HSZ : Hid (w.heap.size + 3 ≤ wr.heap.size) := by have := HBW.out.size; have := HS0.out; show _ ≤ _; omega
    obtain ⟨q0, q1, q2, q3⟩ := HQ.out
    have k0 := (HBW.out.cell (p := ⟨w.heap.size, 0, none⟩) (by simp only; omega)).trans q0
    have k1 := (HBW.out.cell (p := ⟨w.heap.size, 1, none⟩) (by simp only; omega)).trans q1
    have k2 := (HBW.out.cell (p := ⟨w.heap.size, 2, none⟩) (by simp only; omega)).trans q2
    have k3 := (HBW.out.cell (p := ⟨w.heap.size, 3, none⟩) (by simp only; omega)).trans q3
    have kp := HCP.out
    clear q0 q1 q2 q3
    by_cases hlt : k < m.cons.length
    · obtain ⟨c, hc⟩ : ∃ c, m.cons[k]? = some c := ⟨m.cons[k], by simp [hlt]⟩
      have HLK : Hid (L[k]? = some (pointsP m.vars c)) := by show _ = _; rw [← HL.out, List.getElem?_map, hc]; rfl
      have HPT : Hid (∀ Y, Below wr.heap.size wr Y → Calls Tryz.prog 127 #[.agg #[.slice a1 m.vars.length c1, .slice a2 m.cons.length c2, .int .i64 m.goal, .int .i64 m.var], .int .i64 (k : Int)] Y fun e w' => ∃ x, e = .returned x ∧ w'.ownsRow Y.heap.size 183 1 x (pointsP m.vars c).length (u64s (pointsP m.vars c)) ∧ Below Y.heap.size Y w') := fun Y hY =>
        points_own m k c _ _ Y HM.out hc (HMA.out _ (HBN.out.trans (hY.mono HBN.out.size)))
      have HLEN : Hid (cells.length = m.cons.length) := by have := HROW.out.1.1; show _ = _; omega
      obtain ⟨y, hy⟩ : ∃ y, cells[k]? = some y := ⟨cells[k]'(by rw [HLEN.out]; exact hlt), by simp⟩
      have HY : Hid (cells[k]? = some y) := hy
      have lr : w.heap.size < wr.heap.size := by have := HSZ.out; omega
      clear hc hy
      go_wp2_with fail
      go_region_law
        (rw [if_pos (by rfl)]; go_simp; go_at_call 127; refine (HPT.out _ (Below.refl _ _).drew).mono ?_; rintro e w3 ⟨x, rfl, hx, hb3⟩; obtain ⟨ax, cx, rfl⟩ := own_form hx; have hB3 : Below wr.heap.size wr w3 := (Below.refl _ _).drew.trans hb3; have s0 := (hB3.cell (p := ⟨w.heap.size + 1 + 1, 0, none⟩) (by have := HSZ.out; simp only; omega)).trans kp; have HR3 := HROW.out.below hB3; have cB : w3.cell? ⟨w.heap.size + 1, k, none⟩ = some y := (HR3.1.cellAt k (by omega)).trans HY.out; have zB := HR3.1.frozenAt k; have lB : w.heap.size + 1 < w3.heap.size := (HR3.1.lt (w.heap.size + 1) rfl).2; dsimp only)
      all_goals
        have HPUT : Hid (PtsRow (w.heap.size + 1) m.cons.length (cells.set k (.slice ax (pointsP m.vars c).length cx)) L (k + 1) (w3.setCell ⟨w.heap.size + 1, k, none⟩ (.slice ax (pointsP m.vars c).length cx))) := HR3.put hlt HLK.out (World.ownsRow.mono hx (by show w.heap.size + 1 + 1 ≤ wr.heap.size; have := HSZ.out; omega))
        have HBS : Hid (Below (w.heap.size + 1) W (w3.setCell ⟨w.heap.size + 1, k, none⟩ (.slice ax (pointsP m.vars c).length cx))) := (HBW.out.trans (hB3.mono (by have := HSZ.out; omega))).setCell (show w.heap.size + 1 ≤ w.heap.size + 1 from Nat.le_refl _) _
        have HCS : Hid ((w3.setCell ⟨w.heap.size + 1, k, none⟩ (.slice ax (pointsP m.vars c).length cx)).cell? ⟨w.heap.size + 1 + 1, 0, none⟩ = some (.slice (some ⟨w.heap.size + 1, 0, none⟩) m.cons.length m.cons.length)) := (World.cell?_of_block (Below.heap_setCell _ _ _ _ (fun h => by simp only at h; omega))).trans s0
        clear hx hb3 hB3 s0 HR3 k0 k1 k2 k3 kp
        go_wp2
        go_roundw
        case rel => exact ⟨k + 1, _, by omega, by go_num, HPUT, HBS, HCS⟩
        case measure => simp [intOf]; omega
    · have hke : k = m.cons.length := by omega
      subst hke
      have HPP : Hid (PPArg wr (.slice (some ⟨w.heap.size + 1, 0, none⟩) m.cons.length m.cons.length) L) := HROW.out.arg (by rw [← HL.out, List.length_map]) (by
        rw [← HL.out]
        intro r hr
        obtain ⟨c, hcm, rfl⟩ := List.mem_map.1 hr
        obtain ⟨j, hj⟩ := List.mem_iff_getElem?.1 hcm
        exact pointsP_lt m HM.out j c hj) (by omega)
      have lr : w.heap.size < wr.heap.size := by have := HSZ.out; omega
      obtain ⟨W2, hW2⟩ : ∃ W2 : World, W2 = wr := ⟨_, rfl⟩
      rw [← hW2] at HPP HBN HSZ k0 k1 k2 k3 kp lr ⊢
      have HK0 : Hid (W2.cell? ⟨w.heap.size, 0, none⟩ = some (.slice a1 m.vars.length c1)) := k0
      have HKP : Hid (W2.cell? ⟨w.heap.size + 1 + 1, 0, none⟩ = some (.slice (some ⟨w.heap.size + 1, 0, none⟩) m.cons.length m.cons.length)) := kp
      clear hW2 HROW HBW HCP
      go_wp2_with fail
      refine (pheld_any m HM.out given hg6 _ _ _ _ (HMA.out _ HBN.out) (HU.out _ HBN.out)).mono ?_
      rintro e w5 ⟨x, rfl, hx, hb5⟩
      obtain ⟨ax, cx, rfl⟩ := own_form hx
      have HWS : Hid (WalkS W2.heap.size w.heap.size (w.heap.size + 1 + 1) w5.heap.size m (.slice a1 m.vars.length c1) (.slice a2 m.cons.length c2) (.slice (some ⟨w.heap.size + 1, 0, none⟩) m.cons.length m.cons.length) (given.map (heldP m.vars)) (w5.alloc (.cells #[.slice ax given.length cx] 180))) := by
        have hbx : Below W2.heap.size W2 (w5.alloc (.cells #[.slice ax given.length cx] 180)) := hb5.alloc hb5.size _
        refine ⟨⟨hb5.size, hbx.size⟩, ⟨W2, Nat.le_refl _, ⟨HMA.out _ HBN.out, by rw [HL.out]; exact HPP.out, HK0.out, HKP.out, HT.out _ HBN.out⟩, hbx⟩, helds_lt m HM.out given, .slice ax given.length cx, ?_, ?_, ?_⟩
        · exact World.ownsRow_lit w5 #[.slice ax given.length cx] 1 hb5.size (by unfold maxLen; omega) rfl
        · rw [List.length_map]
          exact World.ownsRow.mono (hx.alloc _) (by omega)
        · intro he
          have := (hx.lt _ he).2
          omega
      have HBF : Hid (Below w.heap.size w (w5.alloc (.cells #[.slice ax given.length cx] 180))) := HBN.out.trans ((hb5.alloc hb5.size _).mono HBN.out.size)
      have HNS : Hid (w.heap.size ≤ W2.heap.size) := HBN.out.size
      clear hx hb5 k0 k1 k2 k3 kp
      go_wp2
      go_ret
      exact ⟨_, _, _, _, _, rfl, HWS.out, HNS.out, HBF.out⟩
end Go.Proofs.YtdjbejlbmaiocagGreatDoor
/-
  WALK: package proof: Check.
-/
namespace Go.Proofs.YtdjbejlbmaiocagGreatDoor
open Go.RowKit

/-- Is the last clause empty? -/
def lastB (l : List MStep) : Bool := match l.getLast? with
  | none => false
  | some s => decide (s.cla.length = 0)
def pcheckA (m : Mod) (given : List Cla) (l : List MStep) : Bool × Int :=
  if stepsE m given l = 0 then (if lastB l then (stepsP m (given.map (heldP m.vars)) l, 0) else (false, 0)) else (false, stepsE m given l)
theorem stepsP_take (m : Mod) : ∀ (l : List MStep) (ahead : List Nat) (k : Nat) (s : MStep), l[k]? = some s →
    stepsP m ahead (l.drop k) = (rightP m ahead s && stepsP m (ahead ++ [heldP m.vars s.cla]) (l.drop (k + 1))) := by
  intro l ahead k s h
  have hk : k < l.length := (List.getElem?_eq_some_iff.1 h).1
  have hs : l[k] = s := by rw [List.getElem?_eq_getElem hk] at h; exact Option.some.inj h
  rw [List.drop_eq_getElem_cons hk, hs]
  rfl

set_option maxHeartbeats 3200000 in
set_option maxRecDepth 100000 in
theorem pcheck_any (m : Mod) (given : List Cla) (l : List MStep) (vs cs ul u : Value) (w : World) (hma : MArg w vs cs m) (hul : LLArg w ul given) (hu : StArg w u l) (hT : TabT w) :
    Calls Tryz.prog 35 #[modV vs cs m, ul, u] w fun e w' => e = .returned (.tuple #[.bool (pcheckA m given l).1, .int .i64 (pcheckA m given l).2]) ∧ Below w.heap.size w w' := by
  have HMA : Hid (∀ w', Below w.heap.size w w' → MArg w' vs cs m) := fun w' h => MArg.below h hma
  have HL : Hid (∀ w', Below w.heap.size w w' → LLArg w' ul given) := fun w' h => LLArg.below h hul
  have HSA : Hid (∀ w', Below w.heap.size w w' → StArg w' u l) := fun w' h => StArg.below h hu
  have HT : Hid (∀ w', Below w.heap.size w w' → TabT w') := fun w' h => hT.below h
  obtain ⟨R, hR⟩ : ∃ R, pcheckA m given l = R := ⟨_, rfl⟩
  have HR : Hid (pcheckA m given l = R) := hR
  rw [hR]
  obtain ⟨⟨a1, c1, rfl, _, _⟩, ⟨a2, c2, rfl, _, _⟩⟩ := hma
  obtain ⟨a3, c3, rfl, hm3, hr3⟩ := hu
  have HST : Hid (∀ (i : Nat) (t : MStep), l[i]? = some t → ∃ b off x, a3 = some ⟨b, off, none⟩ ∧ b < w.heap.size ∧
    w.cell? ⟨b, off + i * 3, none⟩ = some (.int .i64 t.kind) ∧ w.cell? ⟨b, off + i * 3 + 1, none⟩ = some (.int .i64 t.con) ∧ w.cell? ⟨b, off + i * 3 + 2, none⟩ = some x ∧ LArg w x t.cla) := hr3
  unfold maxLen at hm3
  obtain ⟨hm31, hm3⟩ := hm3
  obtain ⟨a4, c4, rfl, _, _⟩ := hul
  unfold modV
  clear hR hr3 hT
  go_enter Tryz.func35, Tryz.ntmps35
  go_wp2_with fail
  refine (pchecks_any m given l _ _ _ _ _ (HMA.out _ (below_alloc _ _)) (HL.out _ (below_alloc _ _)) (HSA.out _ (below_alloc _ _))).mono ?_
  rintro e w1 ⟨rfl, hb1⟩
  have HB1 : Hid (Below w.heap.size w w1) := (below_alloc _ _).trans (hb1.mono (by simp))
  have l1 : w.heap.size < w1.heap.size := by have := hb1.size; simp at this; omega
  have k0 : w1.cell? ⟨w.heap.size, 0, none⟩ = some (.slice a1 m.vars.length c1) := (hb1.cell (by simp)).trans (World.cell?_alloc_at _ _ _ 0 (by simp))
  have k1 : w1.cell? ⟨w.heap.size, 1, none⟩ = some (.slice a2 m.cons.length c2) := (hb1.cell (by simp)).trans (World.cell?_alloc_at _ _ _ 1 (by simp))
  have k2 : w1.cell? ⟨w.heap.size, 2, none⟩ = some (.int .i64 m.goal) := (hb1.cell (by simp)).trans (World.cell?_alloc_at _ _ _ 2 (by simp))
  have k3 : w1.cell? ⟨w.heap.size, 3, none⟩ = some (.int .i64 m.var) := (hb1.cell (by simp)).trans (World.cell?_alloc_at _ _ _ 3 (by simp))
  clear hb1
  obtain ⟨er, her⟩ : ∃ er, stepsE m given l = er := ⟨_, rfl⟩
  have HER : Hid (stepsE m given l = er) := her
  rw [her]
  clear her
  by_cases he : er = 0
  · subst he
    obtain ⟨ok1, ok2, ok3, ok4, ok5⟩ := stepsE_ok m given l HER.out
    have HM : Hid (checkM m = 0) := ok1
    have HG6 : Hid (given.length ≤ 600) := (clasE_ok m.vars given ok3).1
    have HK5 : Hid (∀ s ∈ l, s.kind = 1 → 0 ≤ s.con ∧ s.con < (m.cons.length : Int)) := ok5
    have HR2 : Hid (R = if lastB l then (stepsP m (given.map (heldP m.vars)) l, 0) else (false, 0)) := by
      show _ = _
      rw [← HR.out]
      unfold pcheckA
      rw [if_pos HER.out]
    clear HR ok1 ok3 ok4 ok5
    by_cases hl0 : l.length = 0
    · have hnil : l = [] := List.eq_nil_of_length_eq_zero hl0
      have HRF : Hid (R = (false, 0)) := by show _ = _; rw [HR2.out, hnil]; rfl
      have g0 : ((l.length : Int) == 0) = true := by simp [hl0]
      clear hnil HR2
      go_wp2
      go_ret2
      exact ⟨by rw [HRF.out]; rfl, HB1.out⟩
    · have g0 : ((l.length : Int) == 0) = false := by simpa using hl0
      obtain ⟨n, hn⟩ : ∃ n, l.length = n + 1 := ⟨l.length - 1, by omega⟩
      obtain ⟨t, ht⟩ : ∃ t, l[n]? = some t := ⟨l[n]'(by omega), by simp⟩
      have HLB : Hid (lastB l = decide (t.cla.length = 0)) := by
        show _ = _
        unfold lastB
        rw [List.getLast?_eq_getElem?, hn, Nat.add_sub_cancel, ht]
      obtain ⟨b, off, x, hax, hb, q0, q1, q2, hxa⟩ := HST.out n t ht
      subst hax
      have hc2 := (HB1.out.cell (p := ⟨b, off + n * 3 + 2, none⟩) hb).trans q2
      obtain ⟨ax, cx, rfl, _, _⟩ := hxa
      have g1 : (l.length : Int) - 1 = (n : Int) := by omega
      have g2 : IntKind.i64.wrap ((l.length : Int) - 1) = (n : Int) := by rw [g1]; simp [IntKind.wrap, IntKind.signed, IntKind.bits]; omega
      have g3 : n < l.length := by omega
      have g5 : (0 : Int) ≤ (n : Int) := by omega
      clear q0 q1 q2 ht hb hn g1
      by_cases htl : t.cla.length = 0
      · have HR3 : Hid (R = (stepsP m (given.map (heldP m.vars)) l, 0)) := by
          show _ = _
          rw [HR2.out, HLB.out, decide_eq_true htl]; rfl
        have g4 : ((t.cla.length : Int) != 0) = false := by simp [htl]
        clear HR2 htl
        go_wp2_with fail
        refine (walk_any m HM.out given HG6.out _ _ _ _ (HMA.out _ HB1.out) (HL.out _ HB1.out) (HT.out _ HB1.out)).mono ?_
        rintro e w2 ⟨N, bm, bp, ba, pv, rfl, hws, hN, hb2⟩
        have HWS : Hid (WalkS N bm bp ba m (.slice a1 m.vars.length c1) (.slice a2 m.cons.length c2) pv (given.map (heldP m.vars)) w2) := hws
        have HB2 : Hid (Below w.heap.size w w2) := HB1.out.trans (hb2.mono HB1.out.size)
        have HNN : Hid (w.heap.size ≤ N) := Nat.le_trans HB1.out.size hN
        clear hws hb2 hN k0 k1 k2 k3 l1 hc2 g2 g4 g5
        go_wp2_with fail
        go_loopw [38] (fun i wr => ∃ (k : Nat) (ahead : List Nat), k ≤ l.length ∧ i = .int .i64 k ∧ Hid (WalkS N bm bp ba m (.slice a1 m.vars.length c1) (.slice a2 m.cons.length c2) pv ahead wr) ∧ Hid (stepsP m (given.map (heldP m.vars)) l = stepsP m ahead (l.drop k)) ∧ Hid (ahead.length = given.length + k) ∧ Hid (Below w.heap.size w wr)) (fun i _ => l.length - (intOf i).toNat)
        case atStart => exact ⟨0, _, by omega, rfl, HWS, rfl, by show _ = _; simp, HB2⟩
        case round =>
          obtain ⟨k, ahead, hk, rfl, HW, HSP, HAL, HBW⟩ := hrel
          by_cases hlt : k < l.length
          · obtain ⟨t, ht⟩ : ∃ t, l[k]? = some t := ⟨l[k], by simp [hlt]⟩
            obtain ⟨b', off', x, hax, hb, q0, q1, q2, hxa⟩ := HST.out k t ht
            injection hax with hax
            injection hax with hax1 hax2
            subst hax1
            subst hax2
            have hc0 := (HBW.out.cell (p := ⟨b, off + k * 3, none⟩) hb).trans q0
            have hc1 := (HBW.out.cell (p := ⟨b, off + k * 3 + 1, none⟩) hb).trans q1
            have hc2 := (HBW.out.cell (p := ⟨b, off + k * 3 + 2, none⟩) hb).trans q2
            have HXA : Hid (∀ w', Below w.heap.size w w' → LArg w' x t.cla) := fun w' h => LArg.below h hxa
            obtain ⟨ax, cx, rfl, _, _⟩ := hxa
            have HKT : Hid (t.kind = 1 → 0 ≤ t.con ∧ t.con < (m.cons.length : Int)) := HK5.out t (List.mem_of_getElem? ht)
            have HST2 : Hid (stepsP m ahead (l.drop k) = (rightP m ahead t && stepsP m (ahead ++ [heldP m.vars t.cla]) (l.drop (k + 1)))) := stepsP_take m l ahead k t ht
            have hbud : ahead.length ≤ 100000 := by have := HAL.out; have := HG6.out; omega
            clear ht q0 q1 q2 hb
            go_wp2_with fail
            refine (wstep_any N bm bp ba m _ _ pv _ ahead t _ HM.out (HW.out.below (below_alloc _ _)) (HXA.out _ (HBW.out.alloc HBW.out.size _)) HKT.out hbud).mono ?_
            rintro e w3 ⟨rfl, hw3, hb3⟩
            have HW3 : Hid (WalkS N bm bp ba m (.slice a1 m.vars.length c1) (.slice a2 m.cons.length c2) pv (ahead ++ [heldP m.vars t.cla]) w3) := hw3
            have HB3 : Hid (Below w.heap.size w w3) := (HBW.out.alloc HBW.out.size _).trans (hb3.mono HNN.out)
            obtain ⟨B, hB⟩ : ∃ B, rightP m ahead t = B := ⟨_, rfl⟩
            rw [hB] at HST2 ⊢
            clear hw3 hb3 hB hbud hc0 hc1 hc2
            cases B
            · have HRF : Hid (R = (false, 0)) := by show _ = _; rw [HR3.out, HSP.out, HST2.out]; rfl
              go_wp2
              go_ret2
              exact ⟨by rw [HRF.out]; rfl, HB3.out⟩
            · have HSP2 : Hid (stepsP m (given.map (heldP m.vars)) l = stepsP m (ahead ++ [heldP m.vars t.cla]) (l.drop (k + 1))) := by show _ = _; rw [HSP.out, HST2.out]; rfl
              have HAL2 : Hid ((ahead ++ [heldP m.vars t.cla]).length = given.length + (k + 1)) := by show _ = _; rw [List.length_append, HAL.out]; simp; omega
              go_wp2
              go_roundw
              case rel => exact ⟨k + 1, _, by omega, by go_num, HW3, HSP2, HAL2, HB3⟩
              case measure => simp [intOf]; omega
          · have hke : k = l.length := by omega
            have HRF : Hid (R = (true, 0)) := by show _ = _; rw [HR3.out, HSP.out, hke, List.drop_length]; rfl
            clear hke
            go_wp2
            go_ret2
            exact ⟨by rw [HRF.out]; rfl, HBW.out⟩
      · have HRF : Hid (R = (false, 0)) := by
          show _ = _
          rw [HR2.out, HLB.out, decide_eq_false htl]; rfl
        have g4 : ((t.cla.length : Int) != 0) = true := by simpa using htl
        clear HR2 htl
        go_wp2
        go_ret2
        exact ⟨by rw [HRF.out]; rfl, HB1.out⟩
  · have HRF : Hid (R = (false, er)) := by
      show _ = _
      rw [← HR.out]
      unfold pcheckA
      rw [HER.out, if_neg he]
    have he2 : (er != 0) = true := by simpa using he
    clear he
    go_wp2
    go_ret2
    exact ⟨by rw [HRF.out]; rfl, HB1.out⟩
end Go.Proofs.YtdjbejlbmaiocagGreatDoor
/-
  PLAIN: a searcher's proof stays right, whatever it does; and where there is none, it ends with an empty clause.
-/
namespace Go.Proofs.YtdjbejlbmaiocagGreatDoor

/-- Of a least list that is enough, whatever is enough alone stands alone. -/
theorem least_front {α : Type} (e : List α → Bool) (P : α → Prop) (hP : ∀ l x, x ∈ l → P x → e l = true) : ∀ (k : Nat) (out : List α), k ≤ out.length → ∃ F, leastL e k out = F ++ out.drop k ∧ (∀ x ∈ F, x ∈ out.take k) ∧ ((∃ x ∈ out.drop k, P x) → F = []) ∧ ((∃ x ∈ F, P x) → F.length = 1)
  | 0, out, _ => ⟨[], by simp [leastL], fun x hx => (by cases hx), fun _ => rfl, fun ⟨x, hx, _⟩ => (by cases hx)⟩
  | k + 1, out, hk => by
    unfold leastL
    have hkl : k < out.length := by omega
    by_cases he : e (out.eraseIdx k) = true
    · rw [if_pos he]
      have hlen : (out.eraseIdx k).length = out.length - 1 := by rw [List.length_eraseIdx]; simp [hkl]
      obtain ⟨F, f1, f2, f3, f4⟩ := least_front e P hP k (out.eraseIdx k) (by omega)
      have hd : (out.eraseIdx k).drop k = out.drop (k + 1) := by
        rw [List.eraseIdx_eq_take_drop_succ, List.drop_append_of_le_length (by rw [List.length_take]; omega), List.drop_of_length_le (by rw [List.length_take]; omega), List.nil_append]
      have ht : (out.eraseIdx k).take k = out.take k := by
        rw [List.eraseIdx_eq_take_drop_succ, List.take_append_of_le_length (by rw [List.length_take]; omega), List.take_take, Nat.min_self]
      rw [hd] at f1 f3
      rw [ht] at f2
      exact ⟨F, f1, fun x hx => by rw [List.take_add_one]; exact List.mem_append_left _ (f2 x hx), f3, f4⟩
    · rw [if_neg he]
      obtain ⟨F, f1, f2, f3, f4⟩ := least_front e P hP k out (by omega)
      have hd : out.drop k = out[k] :: out.drop (k + 1) := List.drop_eq_getElem_cons hkl
      have hno : ∀ x ∈ out.eraseIdx k, ¬ P x := fun x hx hp => he (hP _ x hx hp)
      have her : ∀ x, x ∈ out.take k ∨ x ∈ out.drop (k + 1) → x ∈ out.eraseIdx k := fun x hx => by
        rw [List.eraseIdx_eq_take_drop_succ]
        exact List.mem_append.2 hx
      refine ⟨F ++ [out[k]], by rw [f1, hd]; simp, fun x hx => ?_, fun ⟨x, hx, hp⟩ => absurd hp (hno x (her x (Or.inr hx))), fun ⟨x, hx, hp⟩ => ?_⟩
      · rcases List.mem_append.1 hx with hx | hx
        · rw [List.take_add_one]; exact List.mem_append_left _ (f2 x hx)
        · rw [List.mem_singleton.1 hx, List.take_add_one, List.getElem?_eq_getElem hkl]
          exact List.mem_append_right _ (by simp)
      · rcases List.mem_append.1 hx with hx | hx
        · exact absurd hp (hno x (her x (Or.inl (f2 x hx))))
        · rw [List.mem_singleton.1 hx] at hp
          have := f3 ⟨out[k], by rw [hd]; exact List.mem_cons_self .., hp⟩
          rw [this]; rfl
theorem least_alone {α : Type} (e : List α → Bool) (P : α → Prop) (hP : ∀ l x, x ∈ l → P x → e l = true) (out : List α) (x : α) (hx : x ∈ leastL e out.length out) (hp : P x) : leastL e out.length out = [x] := by
  obtain ⟨F, f1, _, _, f4⟩ := least_front e P hP out.length out (Nat.le_refl _)
  rw [List.drop_length, List.append_nil] at f1
  rw [f1] at hx ⊢
  have hl := f4 ⟨x, hx, hp⟩
  match F, hl, hx with
  | [y], _, hx => rw [List.mem_singleton.1 hx]
theorem least_clear {α : Type} (e : List α → Bool) (h : ∀ l, e l = true) : ∀ (k : Nat) (out : List α), k = out.length → leastL e k out = []
  | 0, out, hk => by
    unfold leastL
    exact List.length_eq_zero_iff.1 hk.symm
  | k + 1, out, hk => by
    unfold leastL
    rw [if_pos (h _)]
    exact least_clear e h k _ (by rw [List.length_eraseIdx]; split <;> omega)
theorem whole_full (m : Mod) (hm : checkM m = 0) : lackP m.vars.length (wholeP m.vars) = false := by
  refine lack_not _ _ fun v hv => ⟨0, by omega, ?_⟩
  have h1 := (vars_all m hm).2 v hv
  have h6 := (vars_okP m hm).2 v
  unfold wholeP ofP
  rw [testBit_of m.vars (vars_okP m hm)]
  simp only [Bool.and_eq_true, decide_eq_true_eq]
  have e : (6 * v + 0) / 6 = v := by omega
  rw [e]
  refine ⟨hv, ?_, trivial⟩
  unfold sizeV
  omega
theorem less_none (p : Nat) : lessN p 0 = p := by
  apply Nat.eq_of_testBit_eq
  intro i
  rw [testBit_less, Nat.zero_testBit]; simp
/-- A constraint that says so of nothing has no points. -/
theorem says_none (m : Mod) (hm : checkM m = 0) (pts : List Nat) (h : saysP m.vars pts 0 = true) : pts = [] := by
  unfold saysP at h
  rw [less_none, whole_full m hm, Bool.false_or, Bool.not_eq_true', List.any_eq_false] at h
  cases pts with
  | nil => rfl
  | cons q r =>
    exfalso
    exact h q (List.mem_cons_self ..) (by unfold stayP; simp)
theorem left_none (l : Nat) : leftP [] l = 0 := by unfold leftP leftF; simp
/-- A constraint without points leaves nothing of anything. -/
theorem narrow_none (vs : List MVar) (hv : VarsOk vs) (cs : List Nat) (pt : List (List Nat)) (hp : [] ∈ pt) (h : Nat) : narrowP vs cs pt h = 0 := by
  have hcons : ∀ (ptl : List (List Nat)) (l : Nat), [] ∈ ptl → consN ptl l = 0 := by
    intro ptl
    induction ptl with
    | nil => intro l h; cases h
    | cons pts r ih =>
      intro l hm
      unfold consN
      by_cases h0 : l = 0
      · rw [if_pos h0]; exact h0
      · rw [if_neg h0]
        rcases List.mem_cons.1 hm with he | hm
        · rw [← he, left_none]
          cases r with
          | nil => rfl
          | cons a b => unfold consN; rw [if_pos rfl]
        · exact ih _ hm
  apply Classical.byContradiction
  intro hn
  have := narrow_fix vs hv cs pt h hn
  rw [hcons pt _ hp] at this
  exact hn this.symm
theorem why_right (m : Mod) (hm : checkM m = 0) (pts : List Nat) (any : Cla) (gone : Nat) (hg : SubP gone (wholeP m.vars)) (ha : any.length ≤ 1) (hr : ∀ l ∈ any, litE m.vars l = 0) : claE m.vars (whyP m.vars pts any gone) = 0 := by
  unfold claE
  have hl : (whyP m.vars pts any gone).length ≤ 37 := by
    unfold whyP
    rw [List.length_append]
    have := lits_len m.vars (spareP (fun g => saysP m.vars pts (heldP m.vars any ||| g)) (gone + 1) gone gone)
    omega
  rw [if_neg (by omega)]
  refine firstE_zero _ fun e he => ?_
  obtain ⟨x, hx, rfl⟩ := List.mem_map.1 he
  unfold whyP at hx
  rcases List.mem_append.1 hx with hx | hx
  · exact hr x hx
  · exact lits_right m.vars (vars_okP m hm) (fun v hv => vars_bounds m hm v hv) _ (fun i hi => hg i (spare_sub _ _ _ _ i hi)) x hx
theorem lits_zero (vs : List MVar) : litsP vs 0 = [] := by unfold litsP; rw [bitsL_zero]; rfl
/-- Of each reason: its clause is right, and is empty if it holds of nothing; then its constraint has no points. -/
theorem reasons_clean (m : Mod) (hm : checkM m = 0) (cs : List Nat) (h : Nat) : ∀ x ∈ reasonsP m.vars cs (ptsM m) h, claE m.vars x.1.cla = 0 ∧ (x.2 = 0 → x.1.cla = [] ∧ [] ∈ ptsM m) := by
  intro x hx
  have hv := vars_okP m hm
  obtain ⟨k, c, hc, _, _, hx2, hsay⟩ := reasons_right m hm cs h x hx
  have hpm : pointsP m.vars c ∈ ptsM m := List.mem_map.2 ⟨c, List.mem_of_getElem? hc, rfl⟩
  obtain ⟨t, ht, hx⟩ := List.mem_flatMap.1 hx
  obtain ⟨⟨pts, hp, ha⟩, hsub, hne, hdif⟩ := tells_ok m.vars hv cs (ptsM m) h t ht
  have hgd : (ptsM m).getD t.1 [] = pts := by rw [List.getD_eq_getElem?_getD, hp]; rfl
  have hgw : SubP (lessN (wholeP m.vars) t.2.1) (wholeP m.vars) := fun i hi => ((less_bit _ _ _).1 hi).1
  unfold reasonsT at hx
  rw [hgd] at hx
  by_cases h0 : t.2.2 = 0
  · rw [if_pos h0] at hx
    have hxe := List.mem_singleton.1 hx
    refine ⟨by rw [hxe]; exact why_right m hm pts [] _ hgw (by simp) (fun l hl => by cases hl), fun hz => ⟨?_, ?_⟩⟩
    · rw [hxe] at hz ⊢
      have hz2 : heldP m.vars (whyP m.vars pts [] (lessN (wholeP m.vars) t.2.1)) = 0 := hz
      rw [(why_held m.vars hv pts [] _ hgw).1, held_none m.vars hv, Nat.zero_or] at hz2
      show whyP m.vars pts [] (lessN (wholeP m.vars) t.2.1) = []
      unfold whyP
      unfold spareW at hz2
      rw [hz2, lits_zero]; rfl
    · rw [hz] at hsay
      rw [says_none m hm _ hsay] at hpm
      exact hpm
  · rw [if_neg h0] at hx
    obtain ⟨lt, hlt, hxe⟩ := List.mem_map.1 hx
    have hlr := lits_right m.vars hv (fun v hv => vars_bounds m hm v hv) (lessN t.2.1 t.2.2) (fun i hi => hsub i ((less_bit _ _ _).1 hi).1) lt hlt
    have hl4 : litE m.vars ⟨lt.var, 4, lt.n⟩ = 0 := by
      unfold litE at hlr ⊢
      split at hlr
      · cases hlr
      · rename_i h1
        rw [if_neg h1, if_neg (by simp only; omega)]
        split at hlr
        · cases hlr
        · split at hlr
          · cases hlr
          · rename_i h3
            rw [if_neg h3]
    refine ⟨by rw [← hxe]; exact why_right m hm pts _ _ hgw (by simp) (fun l hl => by rw [List.mem_singleton.1 hl]; exact hl4), fun hz => ?_⟩
    exfalso
    rw [hz] at hsay
    have hnone := says_none m hm _ hsay
    rw [hnone] at hpm
    -- then nothing would have been left
    have h3 : x.2 = heldP m.vars (whyP m.vars pts [⟨lt.var, 4, lt.n⟩] (lessN (wholeP m.vars) t.2.1)) := by rw [← hxe]; rfl
    obtain ⟨k', c', hc', hk1, hk2, _, _⟩ := reasons_right m hm cs h x (List.mem_flatMap.2 ⟨t, ht, by unfold reasonsT; rw [hgd, if_neg h0]; exact hx⟩)
    have hcon : x.1.con = (t.1 : Int) := by rw [← hxe]; rfl
    obtain ⟨k2, c2, hc2, _, hk3, _, hs2⟩ := reasons_right m hm cs h x (List.mem_flatMap.2 ⟨t, ht, by unfold reasonsT; rw [hgd, if_neg h0]; exact hx⟩)
    have hkk : k2 = t.1 := by omega
    subst hkk
    have hpc : pts = pointsP m.vars c2 := by
      unfold ptsM at hp
      rw [List.getElem?_map, hc2] at hp
      exact (Option.some.inj hp).symm
    rw [hz] at hs2
    rw [hpc, says_none m hm _ hs2, left_none] at ha
    exact h0 ha
end Go.Proofs.YtdjbejlbmaiocagGreatDoor
/-
  WALK: package fence: Left.
-/
namespace Go.Proofs.YtdjbejlbmaiocagGreatDoor
open Go.RowKit

theorem leftF_cons (p : Nat) (pts : List Nat) (k z : Nat) (s : Nat × Nat × Bool) (h : pts[k]? = some z) : leftF p (pts.drop k) s = leftF p (pts.drop (k + 1)) (if lessN z p = 0 then (z, s.2.1 ||| z, true) else s) := by
  have hk : k < pts.length := (List.getElem?_eq_some_iff.1 h).1
  have hc : pts[k] = z := by rw [List.getElem?_eq_getElem hk] at h; exact Option.some.inj h
  rw [List.drop_eq_getElem_cons hk, hc]
  rfl

set_option maxHeartbeats 1600000 in
set_option maxRecDepth 100000 in
theorem fleft_any (pts : List Nat) (p : Nat) (hp36 : p < 2 ^ 36) (pv : Value) (w : World) (hp : PArg w pv pts) (hT : TabT w) :
    Calls Tryz.prog 250 #[pv, .int .u64 p] w fun e w' => e = .returned (.int .u64 ((leftP pts p : Nat) : Int)) ∧ w' = w := by
  have HT : Hid (TabT w) := hT
  have HP36 : Hid (p < 2 ^ 36) := hp36
  obtain ⟨R, hR⟩ : ∃ R, leftP pts p = R := ⟨_, rfl⟩
  obtain ⟨S, hS⟩ : ∃ S, leftF p pts (0, 0, false) = S := ⟨_, rfl⟩
  have HS : Hid (R = if S.2.2 then clrN (S.1 + 1) S.1 p ||| S.2.1 else 0) := by show _ = _; rw [← hR, ← hS]; rfl
  have HS0 : Hid (S = leftF p pts (0, 0, false)) := hS.symm
  rw [hR]
  obtain ⟨a2, c2, rfl, hm, hrp⟩ := hp
  have HP : Hid (∀ (i z : Nat), pts[i]? = some z → z < 2 ^ 36 ∧ ∃ b off, a2 = some ⟨b, off, none⟩ ∧ b < w.heap.size ∧ w.cell? ⟨b, off + i, none⟩ = some (.int .u64 z)) := hrp
  unfold maxLen at hm
  obtain ⟨hm1, hm⟩ := hm
  clear hT hR hS hrp hp36
  go_enter Tryz.func250, Tryz.ntmps250
  go_wp2_with fail
  go_loopw [5, 6, 7, 12] (fun s t f i wr => ∃ (k ss tt : Nat) (ff : Bool), k ≤ pts.length ∧ s = .int .u64 (ss : Int) ∧ t = .int .u64 (tt : Int) ∧ f = .bool ff ∧ i = .int .i64 k ∧ Hid (ss < 2 ^ 36) ∧ Hid (tt < 2 ^ 36) ∧ Hid (S = leftF p (pts.drop k) (ss, tt, ff)) ∧ wr = w) (fun _ _ _ i _ => pts.length - (intOf i).toNat)
  case atStart => exact ⟨0, 0, 0, false, by omega, rfl, rfl, rfl, rfl, by show _ < _; decide, by show _ < _; decide, HS0, rfl⟩
  case round =>
    obtain ⟨k, ss, tt, ff, hk, rfl, rfl, rfl, rfl, hs36, ht36, hst, rfl⟩ := hrel
    by_cases hlt : k < pts.length
    · obtain ⟨z, hz⟩ : ∃ z, pts[k]? = some z := ⟨pts[k], by simp [hlt]⟩
      obtain ⟨hz36, b, off, ha, hb, hc⟩ := HP.out k z hz
      subst ha
      have HZ36 : Hid (z < 2 ^ 36) := hz36
      have HN : Hid (S = leftF p (pts.drop (k + 1)) (if lessN z p = 0 then (z, tt ||| z, true) else (ss, tt, ff))) := by show _ = _; rw [hst.out]; exact leftF_cons p pts k z _ hz
      have hnt := bits_andNot_u64 z p (by omega) (by have := HP36.out; omega)
      obtain ⟨o, ho⟩ : ∃ o, lessN z p = o := ⟨_, rfl⟩
      rw [ho] at hnt HN
      clear hz hst ho
      by_cases ho0 : o = 0
      · have HN2 : Hid (S = leftF p (pts.drop (k + 1)) (z, tt ||| z, true)) := by show _ = _; rw [HN.out, if_pos ho0]
        have hor := bits_or_u64_nat tt z (by have := ht36.out; omega) (by omega)
        have HT36 : Hid (tt ||| z < 2 ^ 36) := or_lt36 ht36.out hz36
        obtain ⟨t2, ht2⟩ : ∃ t2, tt ||| z = t2 := ⟨_, rfl⟩
        rw [ht2] at hor HT36 HN2
        subst ho0
        clear ht2 HN hz36
        go_wp2
        go_roundw
        case rel => exact ⟨k + 1, z, t2, true, by omega, rfl, rfl, rfl, by go_num, HZ36, HT36, HN2, trivial⟩
        case measure => simp [intOf]; omega
      · have HN2 : Hid (S = leftF p (pts.drop (k + 1)) (ss, tt, ff)) := by show _ = _; rw [HN.out, if_neg ho0]
        have ho1 : ((o : Int) == 0) = false := by simpa using ho0
        clear HN ho0 hz36
        go_wp2
        go_roundw
        case rel => exact ⟨k + 1, ss, tt, ff, by omega, rfl, rfl, rfl, by go_num, hs36, ht36, HN2, trivial⟩
        case measure => simp [intOf]; omega
    · have hke : k = pts.length := by omega
      have HE : Hid (S = (ss, tt, ff)) := by show _ = _; rw [hst.out, hke, List.drop_length]; rfl
      have HR : Hid (R = if ff then clrN (ss + 1) ss p ||| tt else 0) := by show _ = _; rw [HS.out, HE.out]
      clear hst hke
      cases ff
      · have HR0 : Hid (R = 0) := HR.out
        go_wp2
        go_ret
        exact ⟨ret_u64 HR0.out.symm, rfl⟩
      · have HR1 : Hid (R = clrN (ss + 1) ss p ||| tt) := HR.out
        clear HR
        go_wp2_with fail
        go_loopw [1, 5] (fun q s wx => ∃ qq s2 : Nat, q = .int .u64 (qq : Int) ∧ s = .int .u64 (s2 : Int) ∧ Hid (qq < 2 ^ 36) ∧ Hid (s2 < 2 ^ 36) ∧ Hid (R = clrN (s2 + 1) s2 qq ||| tt) ∧ wx = wr) (fun _ s _ => (intOf s).toNat)
        case atStart => exact ⟨p, ss, rfl, rfl, HP36, hs36, HR1, rfl⟩
        case round =>
          obtain ⟨qq, s2, rfl, rfl, hq36, hs2, hr2, rfl⟩ := hrel
          by_cases hs0 : s2 = 0
          · have HRF : Hid (R = qq ||| tt) := by show _ = _; rw [hr2.out, hs0]; rfl
            have hor := bits_or_u64_nat qq tt (by have := hq36.out; omega) (by have := ht36.out; omega)
            obtain ⟨r, hr⟩ : ∃ r, qq ||| tt = r := ⟨_, rfl⟩
            rw [hr] at hor HRF
            subst hs0
            clear hr hr2
            go_wp2
            go_ret
            exact ⟨ret_u64 HRF.out.symm, rfl⟩
          · have HST : Hid (R = clrN (lessN s2 (fieldP s2) + 1) (lessN s2 (fieldP s2)) (lessN qq (fieldP s2)) ||| tt) := by show _ = _; rw [hr2.out, clr_step s2 qq hs0 hs2.out]
            have HLT : Hid (lessN s2 (fieldP s2) < s2) := less_field_lt s2 hs0 hs2.out
            have HF36 : Hid (fieldP s2 < 2 ^ 36) := field_lt s2 hs0 hs2.out
            have HN0 : Hid (s2 ≠ 0) := hs0
            have hne : ((s2 : Int) != 0) = true := by simpa using hs0
            obtain ⟨f, hf⟩ : ∃ f, fieldP s2 = f := ⟨_, rfl⟩
            have HF : Hid (fieldP s2 = f) := hf
            rw [hf] at HST HLT HF36
            have hn1 := bits_andNot_u64 qq f (by have := hq36.out; omega) (by have := HF36.out; omega)
            have hn2 := bits_andNot_u64 s2 f (by have := hs2.out; omega) (by have := HF36.out; omega)
            obtain ⟨q3, hq3⟩ : ∃ q3, lessN qq f = q3 := ⟨_, rfl⟩
            obtain ⟨s3, hs3⟩ : ∃ s3, lessN s2 f = s3 := ⟨_, rfl⟩
            have HQ3 : Hid (q3 < 2 ^ 36) := by rw [← hq3]; exact less_lt 36 _ _ hq36.out
            have HS3 : Hid (s3 < 2 ^ 36) := by rw [← hs3]; exact less_lt 36 _ _ hs2.out
            rw [hq3] at hn1 HST
            rw [hs3] at hn2 HST HLT
            clear hf hq3 hs3 hs0 hr2
            go_wp2_with fail
            refine (field_any s2 HN0.out hs2.out _ HT.out).mono ?_
            rintro e w ⟨rfl, rfl⟩
            rw [HF.out]
            go_wp2_with fail
            refine (field_any s2 HN0.out hs2.out _ HT.out).mono ?_
            rintro e w ⟨rfl, rfl⟩
            rw [HF.out]
            go_wp2
            go_roundw
            case rel => exact ⟨q3, s3, rfl, rfl, HQ3, HS3, HST, trivial⟩
            case measure => simp [intOf]; exact HLT.out
end Go.Proofs.YtdjbejlbmaiocagGreatDoor
