/-
  PART 7 of what the proof leans on (PrfF, PrfG, TwoPlain, TwoPts, PrfH, SifB, NarA, NarB, StoE, ClaA, FixD, ModQ2, ModR, RefI).
-/
import Derived.Test.YtijohkhpigjbkadGreatDoorPartF
import Derived.Deep.RegionHeld3
import Derived.Laws.EntriesVeiled
import Derived.Deep.QuietTactic
import Derived.BigQuiet
/-
  WALK: package proof: walk.
-/
namespace Go.Proofs.YtijohkhpigjbkadGreatDoor
open Go.RowKit

theorem Tryz.infoParts : (Tryz.prog.info? 55).map (fun i => (i.zero, i.size, i.bytes)) = some (some (.slice none 0 0), 1, 24) := by kernel_rfl
theorem Tryz.underPartss : Tryz.prog.underlying 114 = some (.slice 55) := by kernel_rfl
theorem rows_own (w : World) (n base : Nat) (hn : n ≤ 1000) (hb : base ≤ w.heap.size) : (w.alloc (.cells (madeCells #[.slice none 0 0] n) 55)).ownsRow base 55 1 (.slice (some ⟨w.heap.size, 0, none⟩) n n) n (List.replicate n (.slice none 0 0)) := by
  refine ⟨by simp, Or.inr ⟨w.heap.size, n, _, rfl, hb, heap_alloc_new w _, Nat.le_refl _, by unfold maxLen; omega, ?_, ?_⟩⟩
  · have h := congrArg List.length (toList_madeCells_one (.slice none 0 0) n)
    simp at h
    simpa using h
  · rw [toList_madeCells_one]
    simp
/-- Points, constraint by constraint: a row whose first cells lead to them. -/
def PtsRow (B n : Nat) (cells : List Value) (l : List (List Nat)) (k : Nat) (w : World) : Prop :=
  w.ownsRow B 55 1 (.slice (some ⟨B, 0, none⟩) n n) n cells ∧ ∀ j r, j < k → l[j]? = some r → ∃ x, cells[j]? = some x ∧ w.ownsRow (B + 1) 58 1 x r.length (u64s r)
theorem PtsRow.below {B n k : Nat} {cells : List Value} {l : List (List Nat)} {w w' : World} (h : PtsRow B n cells l k w) (hb : Below w.heap.size w w') : PtsRow B n cells l k w' := by
  refine ⟨own_below h.1 hb, fun j r hj hr => ?_⟩
  obtain ⟨x, h1, h2⟩ := h.2 j r hj hr
  exact ⟨x, h1, own_below h2 hb⟩
theorem PtsRow.put {B n k : Nat} {cells : List Value} {l : List (List Nat)} {w : World} {x : Value} {r : List Nat} (h : PtsRow B n cells l k w) (hk : k < n) (hr : l[k]? = some r) (hx : w.ownsRow (B + 1) 58 1 x r.length (u64s r)) : PtsRow B n (cells.set k x) l (k + 1) (w.setCell ⟨B, k, none⟩ x) := by
  have hlen : cells.length = n := by have := h.1.1; omega
  have keep : ∀ {y : Value} {q : List Nat}, w.ownsRow (B + 1) 58 1 y q.length (u64s q) → (w.setCell ⟨B, k, none⟩ x).ownsRow (B + 1) 58 1 y q.length (u64s q) := fun hy =>
    own_at hy fun g hg => Below.heap_setCell _ _ _ _ (fun he => by have := (hy.lt g hg).1; simp only at he; omega)
  refine ⟨(h.1.stored k x).1, fun j q hj hq => ?_⟩
  by_cases hjk : j = k
  · subst hjk
    rw [hr] at hq
    cases hq
    exact ⟨x, by rw [List.getElem?_set_self (by omega)], keep hx⟩
  · obtain ⟨y, h1, h2⟩ := h.2 j q (by omega) hq
    exact ⟨y, by rw [List.getElem?_set_ne (fun h => hjk h.symm)]; exact h1, keep h2⟩
theorem PtsRow.arg {B n : Nat} {cells : List Value} {l : List (List Nat)} {w : World} (h : PtsRow B n cells l n w) (hl : l.length = n) (hlt : ∀ r ∈ l, ∀ z ∈ r, z < 2 ^ 36) (hn : n ≤ 1000) : PPArg w (.slice (some ⟨B, 0, none⟩) n n) l := by
  refine ⟨_, n, by rw [hl], ⟨by omega, by unfold maxLen; omega⟩, fun i r hr => ?_⟩
  have hi : i < n := by rw [← hl]; exact (List.getElem?_eq_some_iff.1 hr).1
  obtain ⟨x, h1, h2⟩ := h.2 i r hi hr
  exact ⟨B, 0, x, rfl, (h.1.lt B rfl).2, by rw [Nat.zero_add, h.1.cellAt i (by omega)]; exact h1, own_parts h2 (hlt r (List.mem_of_getElem? hr))⟩

set_option maxHeartbeats 3200000 in
set_option maxRecDepth 100000 in
theorem walk_any (m : Mod) (hm : checkM m = 0) (given : List Cla) (hg6 : given.length ≤ 600) (vs cs u : Value) (w : World) (hma : MArg w vs cs m) (hu : LLArg w u given) (hT : TabT w) :
    Calls Tryz.prog 42 #[modV vs cs m, u] w fun e w' => ∃ N bm bp ba pv, e = .returned (.func (.func 81) #[] #[.pointer (some ⟨bm, 0, none⟩), .pointer (some ⟨bp, 0, none⟩), .pointer (some ⟨ba, 0, none⟩)]) ∧
      WalkS N bm bp ba m vs cs pv (given.map (heldP m.vars)) w' ∧ w.heap.size ≤ N ∧ Below w.heap.size w w' := by
  have HMA : Hid (∀ w', Below w.heap.size w w' → MArg w' vs cs m) := fun w' h => MArg.below h hma
  have HU : Hid (∀ w', Below w.heap.size w w' → LLArg w' u given) := fun w' h => LLArg.below h hu
  have HT : Hid (∀ w', Below w.heap.size w w' → TabT w') := fun w' h => hT.below h
  have HM : Hid (checkM m = 0) := hm
  have hc8 : m.cons.length ≤ 8 := (checkM_vars m hm).2.2.1
  have hmk := run_make_row' (P := Tryz.prog) 114 55 (.slice none 0 0) 24 Tryz.underPartss Tryz.infoParts rfl .i64 .i64 m.cons.length (by omega) (by omega)
  obtain ⟨⟨a1, c1, rfl, _, _⟩, ⟨a2, c2, rfl, hm2, _⟩⟩ := hma
  unfold maxLen at hm2
  obtain ⟨hm21, hm2⟩ := hm2
  obtain ⟨a3, c3, rfl, _, _⟩ := hu
  unfold modV
  clear hm hT
  go_enter Tryz.func42, Tryz.ntmps42
  go_wp2_with fail
  clear hmk
  have HB0 : Hid (Below w.heap.size w (((w.alloc (.cells #[.slice a1 m.vars.length c1, .slice a2 m.cons.length c2, .int .i64 m.goal, .int .i64 m.var] 25)).alloc (.cells (madeCells #[.slice none 0 0] m.cons.length) 55)).alloc (.cells #[.slice (some ⟨w.heap.size + 1, 0, none⟩) m.cons.length m.cons.length] 114))) := ((below_alloc _ _).alloc (by simp) _).alloc (by simp; omega) _
  have HQ : Hid ((((w.alloc (.cells #[.slice a1 m.vars.length c1, .slice a2 m.cons.length c2, .int .i64 m.goal, .int .i64 m.var] 25)).alloc (.cells (madeCells #[.slice none 0 0] m.cons.length) 55)).alloc (.cells #[.slice (some ⟨w.heap.size + 1, 0, none⟩) m.cons.length m.cons.length] 114)).cell? ⟨w.heap.size, 0, none⟩ = some (.slice a1 m.vars.length c1) ∧ (((w.alloc (.cells #[.slice a1 m.vars.length c1, .slice a2 m.cons.length c2, .int .i64 m.goal, .int .i64 m.var] 25)).alloc (.cells (madeCells #[.slice none 0 0] m.cons.length) 55)).alloc (.cells #[.slice (some ⟨w.heap.size + 1, 0, none⟩) m.cons.length m.cons.length] 114)).cell? ⟨w.heap.size, 1, none⟩ = some (.slice a2 m.cons.length c2) ∧ (((w.alloc (.cells #[.slice a1 m.vars.length c1, .slice a2 m.cons.length c2, .int .i64 m.goal, .int .i64 m.var] 25)).alloc (.cells (madeCells #[.slice none 0 0] m.cons.length) 55)).alloc (.cells #[.slice (some ⟨w.heap.size + 1, 0, none⟩) m.cons.length m.cons.length] 114)).cell? ⟨w.heap.size, 2, none⟩ = some (.int .i64 m.goal) ∧ (((w.alloc (.cells #[.slice a1 m.vars.length c1, .slice a2 m.cons.length c2, .int .i64 m.goal, .int .i64 m.var] 25)).alloc (.cells (madeCells #[.slice none 0 0] m.cons.length) 55)).alloc (.cells #[.slice (some ⟨w.heap.size + 1, 0, none⟩) m.cons.length m.cons.length] 114)).cell? ⟨w.heap.size, 3, none⟩ = some (.int .i64 m.var)) := by
    refine ⟨?_, ?_, ?_, ?_⟩
    all_goals rw [World.cell?_alloc_past _ _ _ (by simp; omega), World.cell?_alloc_past _ _ _ (by simp)]
    · exact World.cell?_alloc_at _ _ _ 0 (by simp)
    · exact World.cell?_alloc_at _ _ _ 1 (by simp)
    · exact World.cell?_alloc_at _ _ _ 2 (by simp)
    · exact World.cell?_alloc_at _ _ _ 3 (by simp)
  have HQP : Hid ((((w.alloc (.cells #[.slice a1 m.vars.length c1, .slice a2 m.cons.length c2, .int .i64 m.goal, .int .i64 m.var] 25)).alloc (.cells (madeCells #[.slice none 0 0] m.cons.length) 55)).alloc (.cells #[.slice (some ⟨w.heap.size + 1, 0, none⟩) m.cons.length m.cons.length] 114)).cell? ⟨w.heap.size + 1 + 1, 0, none⟩ = some (.slice (some ⟨w.heap.size + 1, 0, none⟩) m.cons.length m.cons.length)) := World.cell?_alloc_at _ _ _ 0 (by simp)
  have HO0 : Hid (PtsRow (w.heap.size + 1) m.cons.length (List.replicate m.cons.length (.slice none 0 0)) (m.cons.map (pointsP m.vars)) 0 (((w.alloc (.cells #[.slice a1 m.vars.length c1, .slice a2 m.cons.length c2, .int .i64 m.goal, .int .i64 m.var] 25)).alloc (.cells (madeCells #[.slice none 0 0] m.cons.length) 55)).alloc (.cells #[.slice (some ⟨w.heap.size + 1, 0, none⟩) m.cons.length m.cons.length] 114))) := by
    refine ⟨?_, fun j r hj => by omega⟩
    have h := (rows_own (w.alloc (.cells #[.slice a1 m.vars.length c1, .slice a2 m.cons.length c2, .int .i64 m.goal, .int .i64 m.var] 25)) m.cons.length (w.heap.size + 1) (by omega) (by simp)).alloc (.cells #[.slice (some ⟨w.heap.size + 1, 0, none⟩) m.cons.length m.cons.length] 114)
    simpa using h
  have HS0 : Hid ((((w.alloc (.cells #[.slice a1 m.vars.length c1, .slice a2 m.cons.length c2, .int .i64 m.goal, .int .i64 m.var] 25)).alloc (.cells (madeCells #[.slice none 0 0] m.cons.length) 55)).alloc (.cells #[.slice (some ⟨w.heap.size + 1, 0, none⟩) m.cons.length m.cons.length] 114)).heap.size = w.heap.size + 3) := by show _ = _; simp
  obtain ⟨W, hW⟩ : ∃ W, (((w.alloc (.cells #[.slice a1 m.vars.length c1, .slice a2 m.cons.length c2, .int .i64 m.goal, .int .i64 m.var] 25)).alloc (.cells (madeCells #[.slice none 0 0] m.cons.length) 55)).alloc (.cells #[.slice (some ⟨w.heap.size + 1, 0, none⟩) m.cons.length m.cons.length] 114)) = W := ⟨_, rfl⟩
  rw [hW] at HB0 HQ HQP HO0 HS0 ⊢
  clear hW
  obtain ⟨L, hL⟩ : ∃ L, m.cons.map (pointsP m.vars) = L := ⟨_, rfl⟩
  have HL : Hid (m.cons.map (pointsP m.vars) = L) := hL
  rw [hL] at HO0
  clear hL
  go_loopw [15] (fun i wr => ∃ (k : Nat) (cells : List Value), k ≤ m.cons.length ∧ i = .int .i64 k ∧ Hid (PtsRow (w.heap.size + 1) m.cons.length cells L k wr) ∧ Hid (Below (w.heap.size + 1) W wr) ∧ Hid (wr.cell? ⟨w.heap.size + 1 + 1, 0, none⟩ = some (.slice (some ⟨w.heap.size + 1, 0, none⟩) m.cons.length m.cons.length))) (fun i _ => m.cons.length - (intOf i).toNat)
  case atStart => exact ⟨0, _, by omega, rfl, HO0, Below.refl _ _, HQP⟩
  case round =>
    obtain ⟨k, cells, hk, rfl, HROW, HBW, HCP⟩ := hrel
    have HBN : Hid (Below w.heap.size w wr) := HB0.out.trans (HBW.out.mono (by omega))
    have HSZ : Hid (w.heap.size + 3 ≤ wr.heap.size) := by have := HBW.out.size; have := HS0.out; show _ ≤ _; omega
    obtain ⟨q0, q1, q2, q3⟩ := HQ.out
    have k0 := (HBW.out.cell (p := ⟨w.heap.size, 0, none⟩) (by simp only; omega)).trans q0
    have k1 := (HBW.out.cell (p := ⟨w.heap.size, 1, none⟩) (by simp only; omega)).trans q1
    have k2 := (HBW.out.cell (p := ⟨w.heap.size, 2, none⟩) (by simp only; omega)).trans q2
    have k3 := (HBW.out.cell (p := ⟨w.heap.size, 3, none⟩) (by simp only; omega)).trans q3
    have kp := HCP.out
    clear q0 q1 q2 q3
    by_cases hlt : k < m.cons.length
    · obtain ⟨c, hc⟩ : ∃ c, m.cons[k]? = some c := ⟨m.cons[k], by simp [hlt]⟩
      have HLK : Hid (L[k]? = some (pointsP m.vars c)) := by show _ = _; rw [← HL.out, List.getElem?_map, hc]; rfl
      have HPT : Hid (∀ Y, Below wr.heap.size wr Y → Calls Tryz.prog 25 #[.agg #[.slice a1 m.vars.length c1, .slice a2 m.cons.length c2, .int .i64 m.goal, .int .i64 m.var], .int .i64 (k : Int)] Y fun e w' => ∃ x, e = .returned x ∧ w'.ownsRow Y.heap.size 58 1 x (pointsP m.vars c).length (u64s (pointsP m.vars c)) ∧ Below Y.heap.size Y w') := fun Y hY =>
        points_own m k c _ _ Y HM.out hc (HMA.out _ (HBN.out.trans (hY.mono HBN.out.size)))
      have HLEN : Hid (cells.length = m.cons.length) := by have := HROW.out.1.1; show _ = _; omega
      obtain ⟨y, hy⟩ : ∃ y, cells[k]? = some y := ⟨cells[k]'(by rw [HLEN.out]; exact hlt), by simp⟩
      have HY : Hid (cells[k]? = some y) := hy
      have lr : w.heap.size < wr.heap.size := by have := HSZ.out; omega
      clear hc hy
      go_wp2_with fail
      go_region_law
        (rw [if_pos (by rfl)]; go_simp; go_at_call 25; refine (HPT.out _ (Below.refl _ _).drew).mono ?_; rintro e w3 ⟨x, rfl, hx, hb3⟩; obtain ⟨ax, cx, rfl⟩ := own_form hx; have hB3 : Below wr.heap.size wr w3 := (Below.refl _ _).drew.trans hb3; have s0 := (hB3.cell (p := ⟨w.heap.size + 1 + 1, 0, none⟩) (by have := HSZ.out; simp only; omega)).trans kp; have HR3 := HROW.out.below hB3; have cB : w3.cell? ⟨w.heap.size + 1, k, none⟩ = some y := (HR3.1.cellAt k (by omega)).trans HY.out; have zB := HR3.1.frozenAt k; have lB : w.heap.size + 1 < w3.heap.size := (HR3.1.lt (w.heap.size + 1) rfl).2; dsimp only)
      all_goals
        have HPUT : Hid (PtsRow (w.heap.size + 1) m.cons.length (cells.set k (.slice ax (pointsP m.vars c).length cx)) L (k + 1) (w3.setCell ⟨w.heap.size + 1, k, none⟩ (.slice ax (pointsP m.vars c).length cx))) := HR3.put hlt HLK.out (World.ownsRow.mono hx (by show w.heap.size + 1 + 1 ≤ wr.heap.size; have := HSZ.out; omega))
        have HBS : Hid (Below (w.heap.size + 1) W (w3.setCell ⟨w.heap.size + 1, k, none⟩ (.slice ax (pointsP m.vars c).length cx))) := (HBW.out.trans (hB3.mono (by have := HSZ.out; omega))).setCell (show w.heap.size + 1 ≤ w.heap.size + 1 from Nat.le_refl _) _
        have HCS : Hid ((w3.setCell ⟨w.heap.size + 1, k, none⟩ (.slice ax (pointsP m.vars c).length cx)).cell? ⟨w.heap.size + 1 + 1, 0, none⟩ = some (.slice (some ⟨w.heap.size + 1, 0, none⟩) m.cons.length m.cons.length)) := (World.cell?_of_block (Below.heap_setCell _ _ _ _ (fun h => by simp only at h; omega))).trans s0
        clear hx hb3 hB3 s0 HR3 k0 k1 k2 k3 kp
        go_wp2
        go_roundw
        case rel => exact ⟨k + 1, _, by omega, by go_num, HPUT, HBS, HCS⟩
        case measure => simp [intOf]; omega
    · have hke : k = m.cons.length := by omega
      subst hke
      have HPP : Hid (PPArg wr (.slice (some ⟨w.heap.size + 1, 0, none⟩) m.cons.length m.cons.length) L) := HROW.out.arg (by rw [← HL.out, List.length_map]) (by
        rw [← HL.out]
        intro r hr
        obtain ⟨c, hcm, rfl⟩ := List.mem_map.1 hr
        obtain ⟨j, hj⟩ := List.mem_iff_getElem?.1 hcm
        exact pointsP_lt m HM.out j c hj) (by omega)
      have lr : w.heap.size < wr.heap.size := by have := HSZ.out; omega
      obtain ⟨W2, hW2⟩ : ∃ W2 : World, W2 = wr := ⟨_, rfl⟩
      rw [← hW2] at HPP HBN HSZ k0 k1 k2 k3 kp lr ⊢
      have HK0 : Hid (W2.cell? ⟨w.heap.size, 0, none⟩ = some (.slice a1 m.vars.length c1)) := k0
      have HKP : Hid (W2.cell? ⟨w.heap.size + 1 + 1, 0, none⟩ = some (.slice (some ⟨w.heap.size + 1, 0, none⟩) m.cons.length m.cons.length)) := kp
      clear hW2 HROW HBW HCP
      go_wp2_with fail
      refine (pheld_any m HM.out given hg6 _ _ _ _ (HMA.out _ HBN.out) (HU.out _ HBN.out)).mono ?_
      rintro e w5 ⟨x, rfl, hx, hb5⟩
      obtain ⟨ax, cx, rfl⟩ := own_form hx
      have HWS : Hid (WalkS W2.heap.size w.heap.size (w.heap.size + 1 + 1) w5.heap.size m (.slice a1 m.vars.length c1) (.slice a2 m.cons.length c2) (.slice (some ⟨w.heap.size + 1, 0, none⟩) m.cons.length m.cons.length) (given.map (heldP m.vars)) (w5.alloc (.cells #[.slice ax given.length cx] 55))) := by
        have hbx : Below W2.heap.size W2 (w5.alloc (.cells #[.slice ax given.length cx] 55)) := hb5.alloc hb5.size _
        refine ⟨⟨hb5.size, hbx.size⟩, ⟨W2, Nat.le_refl _, ⟨HMA.out _ HBN.out, by rw [HL.out]; exact HPP.out, HK0.out, HKP.out, HT.out _ HBN.out⟩, hbx⟩, helds_lt m HM.out given, .slice ax given.length cx, ?_, ?_, ?_⟩
        · exact World.ownsRow_lit w5 #[.slice ax given.length cx] 1 hb5.size (by unfold maxLen; omega) rfl
        · rw [List.length_map]
          exact World.ownsRow.mono (hx.alloc _) (by omega)
        · intro he
          have := (hx.lt _ he).2
          omega
      have HBF : Hid (Below w.heap.size w (w5.alloc (.cells #[.slice ax given.length cx] 55))) := HBN.out.trans ((hb5.alloc hb5.size _).mono HBN.out.size)
      have HNS : Hid (w.heap.size ≤ W2.heap.size) := HBN.out.size
      clear hx hb5 k0 k1 k2 k3 kp
      go_wp2
      go_ret
      exact ⟨_, _, _, _, _, rfl, HWS.out, HNS.out, HBF.out⟩
end Go.Proofs.YtijohkhpigjbkadGreatDoor
/-
  WALK: package proof: Check.
-/
namespace Go.Proofs.YtijohkhpigjbkadGreatDoor
open Go.RowKit

/-- Is the last clause empty? -/
def lastB (l : List MStep) : Bool := match l.getLast? with
  | none => false
  | some s => decide (s.cla.length = 0)
def pcheckA (m : Mod) (given : List Cla) (l : List MStep) : Bool × Int :=
  if stepsE m given l = 0 then (if lastB l then (stepsP m (given.map (heldP m.vars)) l, 0) else (false, 0)) else (false, stepsE m given l)
theorem stepsP_take (m : Mod) : ∀ (l : List MStep) (ahead : List Nat) (k : Nat) (s : MStep), l[k]? = some s →
    stepsP m ahead (l.drop k) = (rightP m ahead s && stepsP m (ahead ++ [heldP m.vars s.cla]) (l.drop (k + 1))) := by
  intro l ahead k s h
  have hk : k < l.length := (List.getElem?_eq_some_iff.1 h).1
  have hs : l[k] = s := by rw [List.getElem?_eq_getElem hk] at h; exact Option.some.inj h
  rw [List.drop_eq_getElem_cons hk, hs]
  rfl

set_option maxHeartbeats 3200000 in
set_option maxRecDepth 100000 in
theorem pcheck_any (m : Mod) (given : List Cla) (l : List MStep) (vs cs ul u : Value) (w : World) (hma : MArg w vs cs m) (hul : LLArg w ul given) (hu : StArg w u l) (hT : TabT w) :
    Calls Tryz.prog 14 #[modV vs cs m, ul, u] w fun e w' => e = .returned (.tuple #[.bool (pcheckA m given l).1, .int .i64 (pcheckA m given l).2]) ∧ Below w.heap.size w w' := by
  have HMA : Hid (∀ w', Below w.heap.size w w' → MArg w' vs cs m) := fun w' h => MArg.below h hma
  have HL : Hid (∀ w', Below w.heap.size w w' → LLArg w' ul given) := fun w' h => LLArg.below h hul
  have HSA : Hid (∀ w', Below w.heap.size w w' → StArg w' u l) := fun w' h => StArg.below h hu
  have HT : Hid (∀ w', Below w.heap.size w w' → TabT w') := fun w' h => hT.below h
  obtain ⟨R, hR⟩ : ∃ R, pcheckA m given l = R := ⟨_, rfl⟩
  have HR : Hid (pcheckA m given l = R) := hR
  rw [hR]
  obtain ⟨⟨a1, c1, rfl, _, _⟩, ⟨a2, c2, rfl, _, _⟩⟩ := hma
  obtain ⟨a3, c3, rfl, hm3, hr3⟩ := hu
  have HST : Hid (∀ (i : Nat) (t : MStep), l[i]? = some t → ∃ b off x, a3 = some ⟨b, off, none⟩ ∧ b < w.heap.size ∧
    w.cell? ⟨b, off + i * 3, none⟩ = some (.int .i64 t.kind) ∧ w.cell? ⟨b, off + i * 3 + 1, none⟩ = some (.int .i64 t.con) ∧ w.cell? ⟨b, off + i * 3 + 2, none⟩ = some x ∧ LArg w x t.cla) := hr3
  unfold maxLen at hm3
  obtain ⟨hm31, hm3⟩ := hm3
  obtain ⟨a4, c4, rfl, _, _⟩ := hul
  unfold modV
  clear hR hr3 hT
  go_enter Tryz.func14, Tryz.ntmps14
  go_wp2_with fail
  refine (pchecks_any m given l _ _ _ _ _ (HMA.out _ (below_alloc _ _)) (HL.out _ (below_alloc _ _)) (HSA.out _ (below_alloc _ _))).mono ?_
  rintro e w1 ⟨rfl, hb1⟩
  have HB1 : Hid (Below w.heap.size w w1) := (below_alloc _ _).trans (hb1.mono (by simp))
  have l1 : w.heap.size < w1.heap.size := by have := hb1.size; simp at this; omega
  have k0 : w1.cell? ⟨w.heap.size, 0, none⟩ = some (.slice a1 m.vars.length c1) := (hb1.cell (by simp)).trans (World.cell?_alloc_at _ _ _ 0 (by simp))
  have k1 : w1.cell? ⟨w.heap.size, 1, none⟩ = some (.slice a2 m.cons.length c2) := (hb1.cell (by simp)).trans (World.cell?_alloc_at _ _ _ 1 (by simp))
  have k2 : w1.cell? ⟨w.heap.size, 2, none⟩ = some (.int .i64 m.goal) := (hb1.cell (by simp)).trans (World.cell?_alloc_at _ _ _ 2 (by simp))
  have k3 : w1.cell? ⟨w.heap.size, 3, none⟩ = some (.int .i64 m.var) := (hb1.cell (by simp)).trans (World.cell?_alloc_at _ _ _ 3 (by simp))
  clear hb1
  obtain ⟨er, her⟩ : ∃ er, stepsE m given l = er := ⟨_, rfl⟩
  have HER : Hid (stepsE m given l = er) := her
  rw [her]
  clear her
  by_cases he : er = 0
  · subst he
    obtain ⟨ok1, ok2, ok3, ok4, ok5⟩ := stepsE_ok m given l HER.out
    have HM : Hid (checkM m = 0) := ok1
    have HG6 : Hid (given.length ≤ 600) := (clasE_ok m.vars given ok3).1
    have HK5 : Hid (∀ s ∈ l, s.kind = 1 → 0 ≤ s.con ∧ s.con < (m.cons.length : Int)) := ok5
    have HR2 : Hid (R = if lastB l then (stepsP m (given.map (heldP m.vars)) l, 0) else (false, 0)) := by
      show _ = _
      rw [← HR.out]
      unfold pcheckA
      rw [if_pos HER.out]
    clear HR ok1 ok3 ok4 ok5
    by_cases hl0 : l.length = 0
    · have hnil : l = [] := List.eq_nil_of_length_eq_zero hl0
      have HRF : Hid (R = (false, 0)) := by show _ = _; rw [HR2.out, hnil]; rfl
      have g0 : ((l.length : Int) == 0) = true := by simp [hl0]
      clear hnil HR2
      go_wp2
      go_ret2
      exact ⟨by rw [HRF.out]; rfl, HB1.out⟩
    · have g0 : ((l.length : Int) == 0) = false := by simpa using hl0
      obtain ⟨n, hn⟩ : ∃ n, l.length = n + 1 := ⟨l.length - 1, by omega⟩
      obtain ⟨t, ht⟩ : ∃ t, l[n]? = some t := ⟨l[n]'(by omega), by simp⟩
      have HLB : Hid (lastB l = decide (t.cla.length = 0)) := by
        show _ = _
        unfold lastB
        rw [List.getLast?_eq_getElem?, hn, Nat.add_sub_cancel, ht]
      obtain ⟨b, off, x, hax, hb, q0, q1, q2, hxa⟩ := HST.out n t ht
      subst hax
      have hc2 := (HB1.out.cell (p := ⟨b, off + n * 3 + 2, none⟩) hb).trans q2
      obtain ⟨ax, cx, rfl, _, _⟩ := hxa
      have g1 : (l.length : Int) - 1 = (n : Int) := by omega
      have g2 : IntKind.i64.wrap ((l.length : Int) - 1) = (n : Int) := by rw [g1]; simp [IntKind.wrap, IntKind.signed, IntKind.bits]; omega
      have g3 : n < l.length := by omega
      have g5 : (0 : Int) ≤ (n : Int) := by omega
      clear q0 q1 q2 ht hb hn g1
      by_cases htl : t.cla.length = 0
      · have HR3 : Hid (R = (stepsP m (given.map (heldP m.vars)) l, 0)) := by
          show _ = _
          rw [HR2.out, HLB.out, decide_eq_true htl]; rfl
        have g4 : ((t.cla.length : Int) != 0) = false := by simp [htl]
        clear HR2 htl
        go_wp2_with fail
        refine (walk_any m HM.out given HG6.out _ _ _ _ (HMA.out _ HB1.out) (HL.out _ HB1.out) (HT.out _ HB1.out)).mono ?_
        rintro e w2 ⟨N, bm, bp, ba, pv, rfl, hws, hN, hb2⟩
        have HWS : Hid (WalkS N bm bp ba m (.slice a1 m.vars.length c1) (.slice a2 m.cons.length c2) pv (given.map (heldP m.vars)) w2) := hws
        have HB2 : Hid (Below w.heap.size w w2) := HB1.out.trans (hb2.mono HB1.out.size)
        have HNN : Hid (w.heap.size ≤ N) := Nat.le_trans HB1.out.size hN
        clear hws hb2 hN k0 k1 k2 k3 l1 hc2 g2 g4 g5
        go_wp2_with fail
        go_loopw [38] (fun i wr => ∃ (k : Nat) (ahead : List Nat), k ≤ l.length ∧ i = .int .i64 k ∧ Hid (WalkS N bm bp ba m (.slice a1 m.vars.length c1) (.slice a2 m.cons.length c2) pv ahead wr) ∧ Hid (stepsP m (given.map (heldP m.vars)) l = stepsP m ahead (l.drop k)) ∧ Hid (ahead.length = given.length + k) ∧ Hid (Below w.heap.size w wr)) (fun i _ => l.length - (intOf i).toNat)
        case atStart => exact ⟨0, _, by omega, rfl, HWS, rfl, by show _ = _; simp, HB2⟩
        case round =>
          obtain ⟨k, ahead, hk, rfl, HW, HSP, HAL, HBW⟩ := hrel
          by_cases hlt : k < l.length
          · obtain ⟨t, ht⟩ : ∃ t, l[k]? = some t := ⟨l[k], by simp [hlt]⟩
            obtain ⟨b', off', x, hax, hb, q0, q1, q2, hxa⟩ := HST.out k t ht
            injection hax with hax
            injection hax with hax1 hax2
            subst hax1
            subst hax2
            have hc0 := (HBW.out.cell (p := ⟨b, off + k * 3, none⟩) hb).trans q0
            have hc1 := (HBW.out.cell (p := ⟨b, off + k * 3 + 1, none⟩) hb).trans q1
            have hc2 := (HBW.out.cell (p := ⟨b, off + k * 3 + 2, none⟩) hb).trans q2
            have HXA : Hid (∀ w', Below w.heap.size w w' → LArg w' x t.cla) := fun w' h => LArg.below h hxa
            obtain ⟨ax, cx, rfl, _, _⟩ := hxa
            have HKT : Hid (t.kind = 1 → 0 ≤ t.con ∧ t.con < (m.cons.length : Int)) := HK5.out t (List.mem_of_getElem? ht)
            have HST2 : Hid (stepsP m ahead (l.drop k) = (rightP m ahead t && stepsP m (ahead ++ [heldP m.vars t.cla]) (l.drop (k + 1)))) := stepsP_take m l ahead k t ht
            have hbud : ahead.length ≤ 100000 := by have := HAL.out; have := HG6.out; omega
            clear ht q0 q1 q2 hb
            go_wp2_with fail
            refine (wstep_any N bm bp ba m _ _ pv _ ahead t _ HM.out (HW.out.below (below_alloc _ _)) (HXA.out _ (HBW.out.alloc HBW.out.size _)) HKT.out hbud).mono ?_
            rintro e w3 ⟨rfl, hw3, hb3⟩
            have HW3 : Hid (WalkS N bm bp ba m (.slice a1 m.vars.length c1) (.slice a2 m.cons.length c2) pv (ahead ++ [heldP m.vars t.cla]) w3) := hw3
            have HB3 : Hid (Below w.heap.size w w3) := (HBW.out.alloc HBW.out.size _).trans (hb3.mono HNN.out)
            obtain ⟨B, hB⟩ : ∃ B, rightP m ahead t = B := ⟨_, rfl⟩
            rw [hB] at HST2 ⊢
            clear hw3 hb3 hB hbud hc0 hc1 hc2
            cases B
            · have HRF : Hid (R = (false, 0)) := by show _ = _; rw [HR3.out, HSP.out, HST2.out]; rfl
              go_wp2
              go_ret2
              exact ⟨by rw [HRF.out]; rfl, HB3.out⟩
            · have HSP2 : Hid (stepsP m (given.map (heldP m.vars)) l = stepsP m (ahead ++ [heldP m.vars t.cla]) (l.drop (k + 1))) := by show _ = _; rw [HSP.out, HST2.out]; rfl
              have HAL2 : Hid ((ahead ++ [heldP m.vars t.cla]).length = given.length + (k + 1)) := by show _ = _; rw [List.length_append, HAL.out]; simp; omega
              go_wp2
              go_roundw
              case rel => exact ⟨k + 1, _, by omega, by go_num, HW3, HSP2, HAL2, HB3⟩
              case measure => simp [intOf]; omega
          · have hke : k = l.length := by omega
            have HRF : Hid (R = (true, 0)) := by show _ = _; rw [HR3.out, HSP.out, hke, List.drop_length]; rfl
            clear hke
            go_wp2
            go_ret2
            exact ⟨by rw [HRF.out]; rfl, HBW.out⟩
      · have HRF : Hid (R = (false, 0)) := by
          show _ = _
          rw [HR2.out, HLB.out, decide_eq_false htl]; rfl
        have g4 : ((t.cla.length : Int) != 0) = true := by simpa using htl
        clear HR2 htl
        go_wp2
        go_ret2
        exact ⟨by rw [HRF.out]; rfl, HB1.out⟩
  · have HRF : Hid (R = (false, er)) := by
      show _ = _
      rw [← HR.out]
      unfold pcheckA
      rw [HER.out, if_neg he]
    have he2 : (er != 0) = true := by simpa using he
    clear he
    go_wp2
    go_ret2
    exact ⟨by rw [HRF.out]; rfl, HB1.out⟩
end Go.Proofs.YtijohkhpigjbkadGreatDoor
/-
  PLAIN: the constraint of two(), and its scope.
-/
namespace Go.Proofs.YtijohkhpigjbkadGreatDoor

def twoC : MCon := ⟨1, [0, 1], [1, -1], -1, [], []⟩
theorem sort_01 : sortI [0, 1] = [0, 1] := by
  unfold sortI
  exact List.mergeSort_of_pairwise (by decide)
theorem two_scopeC : scopeC twoC = [0, 1] := by
  have h1 : scopeL twoC = [0, 1] := by rfl
  unfold scopeC
  rw [h1, sort_01]
  decide
end Go.Proofs.YtijohkhpigjbkadGreatDoor
/-
  PLAIN: the points of two()'s constraint.
-/
namespace Go.Proofs.YtijohkhpigjbkadGreatDoor

def twoP : List Nat := [129, 257, 258]
theorem two_points : pointsP twoM.vars twoC = twoP := by
  unfold pointsP
  rw [two_scopeC]
  decide +kernel
theorem two_con0 : twoM.cons.getD (0 : Int).toNat noCon = twoC := rfl
end Go.Proofs.YtijohkhpigjbkadGreatDoor
/-
  WALK: what must be in any case, of proofs (proofBegun of the laws).
-/
namespace Go.Proofs.YtijohkhpigjbkadGreatDoor
open Go.RowKit

theorem lit_new1 (w : World) (v o n : Int) (B : Nat) (hB : B = w.heap.size) : LArg (w.alloc (.cells #[.int .i64 v, .int .i64 o, .int .i64 n] 72)) (.slice (some ⟨B, 0, none⟩) 1 1) [⟨v, o, n⟩] := by
  subst hB
  refine ⟨_, 1, rfl, ⟨by simp, by unfold maxLen; omega⟩, fun i t ht => ?_⟩
  match i, ht with
  | 0, ht =>
    cases ht
    exact ⟨_, 0, rfl, by simp, World.cell?_alloc_at _ _ _ 0 (by simp), World.cell?_alloc_at _ _ _ 1 (by simp), World.cell?_alloc_at _ _ _ 2 (by simp)⟩
theorem cla_new1 (w : World) (u : Value) (c : Cla) (hu : LArg w u c) (B : Nat) (hB : B = w.heap.size) : LLArg (w.alloc (.cells #[u] 28)) (.slice (some ⟨B, 0, none⟩) 1 1) [c] := by
  subst hB
  refine ⟨_, 1, rfl, ⟨by simp, by unfold maxLen; omega⟩, fun i t ht => ?_⟩
  match i, ht with
  | 0, ht =>
    cases ht
    exact ⟨_, 0, u, rfl, by simp, World.cell?_alloc_at _ _ _ 0 (by simp), LArg.below (below_alloc _ _) hu⟩
theorem cla_nil (w : World) : LArg w (.slice none 0 0) [] := ⟨none, 0, rfl, ⟨Nat.le_refl _, Nat.zero_le _⟩, fun i z hz => by simp at hz⟩
theorem clas_nil (w : World) : LLArg w (.slice none 0 0) [] := ⟨none, 0, rfl, ⟨Nat.le_refl _, Nat.zero_le _⟩, fun i z hz => by simp at hz⟩
theorem st_new1 (w : World) (k n : Int) (u : Value) (c : Cla) (hu : LArg w u c) (B : Nat) (hB : B = w.heap.size) : StArg (w.alloc (.cells #[.int .i64 k, .int .i64 n, u] 48)) (.slice (some ⟨B, 0, none⟩) 1 1) [⟨k, n, c⟩] := by
  subst hB
  refine ⟨_, 1, rfl, ⟨by simp, by unfold maxLen; omega⟩, fun i t ht => ?_⟩
  match i, ht with
  | 0, ht =>
    cases ht
    exact ⟨_, 0, u, rfl, by simp, World.cell?_alloc_at _ _ _ 0 (by simp), World.cell?_alloc_at _ _ _ 1 (by simp), World.cell?_alloc_at _ _ _ 2 (by simp), LArg.below (below_alloc _ _) hu⟩
theorem st_new2 (w : World) (k n k2 n2 : Int) (u u2 : Value) (c c2 : Cla) (hu : LArg w u c) (hu2 : LArg w u2 c2) (B : Nat) (hB : B = w.heap.size) : StArg (w.alloc (.cells #[.int .i64 k, .int .i64 n, u, .int .i64 k2, .int .i64 n2, u2] 48)) (.slice (some ⟨B, 0, none⟩) 2 2) [⟨k, n, c⟩, ⟨k2, n2, c2⟩] := by
  subst hB
  refine ⟨_, 2, rfl, ⟨by simp, by unfold maxLen; omega⟩, fun i t ht => ?_⟩
  match i, ht with
  | 0, ht =>
    cases ht
    exact ⟨_, 0, u, rfl, by simp, World.cell?_alloc_at _ _ _ 0 (by simp), World.cell?_alloc_at _ _ _ 1 (by simp), World.cell?_alloc_at _ _ _ 2 (by simp), LArg.below (below_alloc _ _) hu⟩
  | 1, ht =>
    cases ht
    exact ⟨_, 0, u2, rfl, by simp, World.cell?_alloc_at _ _ _ 3 (by simp), World.cell?_alloc_at _ _ _ 4 (by simp), World.cell?_alloc_at _ _ _ 5 (by simp), LArg.below (below_alloc _ _) hu2⟩

theorem begp_con : pconA twoM 0 [⟨0, 1, 1⟩] = (true, 0) := by
  unfold pconA
  have h1 : conCheck twoM 0 = 0 := by unfold conCheck; rw [if_pos two_checks]; decide
  rw [if_pos h1, two_con0, two_points]
  decide +kernel
theorem begp_unit : punitA twoM [[⟨0, 1, 1⟩]] [⟨0, 4, 2⟩] = (true, 0) := by
  unfold punitA
  rw [if_pos two_checks]
  decide +kernel
theorem begp_e1 : stepsE twoM [] [⟨1, 0, [⟨0, 1, 1⟩]⟩] = 0 := by unfold stepsE; rw [if_pos two_checks]; decide +kernel
theorem begp_no : pcheckA twoM [] [⟨1, 0, [⟨0, 1, 1⟩]⟩] = (false, 0) := by unfold pcheckA; rw [if_pos begp_e1]; decide +kernel
theorem begp_e2 : stepsE twoM [[⟨0, 2, 2⟩]] [⟨1, 0, [⟨0, 1, 1⟩]⟩, ⟨2, 0, []⟩] = 0 := by unfold stepsE; rw [if_pos two_checks]; decide +kernel
theorem begp_yes : pcheckA twoM [[⟨0, 2, 2⟩]] [⟨1, 0, [⟨0, 1, 1⟩]⟩, ⟨2, 0, []⟩] = (true, 0) := by
  unfold pcheckA
  rw [if_pos begp_e2]
  have h1 : rightP twoM ([[⟨0, 2, 2⟩]].map (heldP twoM.vars)) ⟨1, 0, [⟨0, 1, 1⟩]⟩ = true := by
    unfold rightP
    rw [if_pos rfl]
    show saysP twoM.vars (pointsP twoM.vars twoC) _ = true
    rw [two_points]
    decide +kernel
  have h2 : stepsP twoM ([[⟨0, 2, 2⟩]].map (heldP twoM.vars)) [⟨1, 0, [⟨0, 1, 1⟩]⟩, ⟨2, 0, []⟩] = true := by
    unfold stepsP
    rw [h1]
    decide +kernel
  rw [h2]
  decide +kernel

set_option maxHeartbeats 3200000 in
set_option maxRecDepth 100000 in
theorem begun_proof (w : World) (hT : TabT w) :
    Calls Tryz.prog 11 #[] w fun e w' => e = .returned (.bool true) ∧ Below w.heap.size w w' := by
  have HT : Hid (∀ w', Below w.heap.size w w' → TabT w') := fun w' h => hT.below h
  clear hT
  go_enter Tryz.func11, Tryz.ntmps11
  go_wp2_with fail
  refine (two_any _).mono ?_
  rintro e w1 ⟨vs, cs, rfl, hm, hb1⟩
  have HB1 : Hid (Below w.heap.size w w1) := (below_alloc _ _).trans (hb1.mono (by simp))
  have HC : Hid (∀ w' : World, Below w1.heap.size w1 w' → LArg w' (.slice (some ⟨w.heap.size, 0, none⟩) 1 1) [⟨0, 1, 1⟩]) := fun w' h => LArg.below (hb1.trans (h.mono hb1.size)) (lit_new1 w 0 1 1 _ rfl)
  have HM : Hid (MArg w1 vs cs twoM) := hm
  clear hm hb1
  go_wp2_with fail
  refine (pcon_any twoM 0 [⟨0, 1, 1⟩] _ _ _ _ HM.out (HC.out _ (Below.refl _ _))).mono ?_
  rintro e w2 ⟨rfl, hb2⟩
  rw [begp_con]
  have HB2 : Hid (Below w1.heap.size w1 w2) := hb2
  clear hb2 HM
  go_wp2_with fail
  refine (two_any _).mono ?_
  rintro e w3 ⟨vs, cs, rfl, hm, hb3⟩
  have HB3 : Hid (Below w1.heap.size w1 w3) := HB2.out.trans (hb3.mono HB2.out.size)
  have HM : Hid (∀ w', Below w3.heap.size w3 w' → MArg w' vs cs twoM) := fun w' h => MArg.below h hm
  clear hm hb3 HB2
  go_wp2_with fail
  refine (punit_any twoM [[⟨0, 1, 1⟩]] [⟨0, 4, 2⟩] _ _ _ _ _ (HM.out _ ((below_alloc _ _).alloc (by simp) _)) (LLArg.below (below_alloc _ _) (cla_new1 w3 _ _ (HC.out _ HB3.out) _ rfl)) (lit_new1 _ 0 4 2 _ (by simp)) (HT.out _ (HB1.out.trans (((HB3.out.alloc HB3.out.size _).alloc (by have := HB3.out.size; simp; omega) _).mono HB1.out.size)))).mono ?_
  rintro e w4 ⟨rfl, hb4⟩
  rw [begp_unit]
  have HB4 : Hid (Below w1.heap.size w1 w4) := HB3.out.trans ((((below_alloc _ _).alloc (by simp) _).trans (hb4.mono (by simp; omega))).mono HB3.out.size)
  clear hb4 HB3 HM
  go_wp2_with fail
  refine (two_any _).mono ?_
  rintro e w5 ⟨vs, cs, rfl, hm, hb5⟩
  have HB5 : Hid (Below w1.heap.size w1 w5) := HB4.out.trans (hb5.mono HB4.out.size)
  have HM : Hid (∀ w', Below w5.heap.size w5 w' → MArg w' vs cs twoM) := fun w' h => MArg.below h hm
  clear hm hb5 HB4
  go_wp2_with fail
  refine (pcheck_any twoM [] [⟨1, 0, [⟨0, 1, 1⟩]⟩] _ _ _ _ _ (HM.out _ (below_alloc _ _)) (clas_nil _) (st_new1 w5 1 0 _ _ (HC.out _ HB5.out) _ rfl) (HT.out _ (HB1.out.trans ((HB5.out.alloc HB5.out.size _).mono HB1.out.size)))).mono ?_
  rintro e w6 ⟨rfl, hb6⟩
  rw [begp_no]
  have HB6 : Hid (Below w1.heap.size w1 w6) := HB5.out.trans (((below_alloc _ _).trans (hb6.mono (by simp))).mono HB5.out.size)
  clear hb6 HB5 HM
  go_wp2_with fail
  refine (two_any _).mono ?_
  rintro e w7 ⟨vs, cs, rfl, hm, hb7⟩
  have HB7 : Hid (Below w1.heap.size w1 w7) := HB6.out.trans (hb7.mono HB6.out.size)
  have HM : Hid (∀ w', Below w7.heap.size w7 w' → MArg w' vs cs twoM) := fun w' h => MArg.below h hm
  clear hm hb7 HB6
  go_wp2_with fail
  refine (pcheck_any twoM [[⟨0, 2, 2⟩]] [⟨1, 0, [⟨0, 1, 1⟩]⟩, ⟨2, 0, []⟩] _ _ _ _ _ (HM.out _ (((below_alloc _ _).alloc (by simp) _).alloc (by simp; omega) _)) (LLArg.below (below_alloc _ _) (cla_new1 _ _ _ (lit_new1 w7 0 2 2 _ rfl) _ (by simp))) (st_new2 _ 1 0 2 0 _ _ _ _ (HC.out _ (HB7.out.trans (((below_alloc _ _).alloc (by simp) _).mono HB7.out.size))) (cla_nil _) _ (by simp)) (HT.out _ (HB1.out.trans ((HB7.out.trans ((((below_alloc _ _).alloc (by simp) _).alloc (by simp; omega) _).mono HB7.out.size)).mono HB1.out.size)))).mono ?_
  rintro e w8 ⟨rfl, hb8⟩
  rw [begp_yes]
  have HB8 : Hid (Below w.heap.size w w8) := HB1.out.trans ((HB7.out.trans (((((below_alloc _ _).alloc (by simp) _).alloc (by simp; omega) _).trans (hb8.mono (by simp; omega))).mono HB7.out.size)).mono HB1.out.size)
  clear hb8 HB7 HM
  go_wp2
  go_ret
  exact ⟨rfl, HB8.out⟩
end Go.Proofs.YtijohkhpigjbkadGreatDoor
/-
  WALKS: package sift: All, None.
-/
namespace Go.Proofs.YtijohkhpigjbkadGreatDoor
open Go.RowKit

set_option maxHeartbeats 400000 in
theorem yes_any (x y : Value) (w : World) : Calls Tryz.prog 117 #[x, y] w fun e w' => e = .returned (.bool true) ∧ Below w.heap.size w w' := by
  go_enter Tryz.func117, Tryz.ntmps117
  go_wp2
  go_ret
  exact ⟨rfl, Below.refl _ _⟩
theorem enters_yes (args : Array Value) (w' : World) : Sem.run Tryz.prog (callFunc 117 args) w' = .ok (.enter 117 args) w' := by
  simp [callFunc, go_sem, Tryz.func117, Tryz.f117]

set_option maxHeartbeats 400000 in
theorem all_any (s : Sto) (v : Value) (w : World) (hv : RArg w v s) (hn : s.length ≤ 6) (hr6 : ∀ r ∈ s, r.length ≤ 6) :
    Calls Tryz.prog 84 #[v] w fun e w' => ∃ x, e = .returned x ∧ RArg w' x s ∧ Below w.heap.size w w' := by
  have HV : Hid (RArg w v s) := hv
  have HR6 : Hid (∀ r ∈ s, r.length ≤ 6) := hr6
  obtain ⟨a, c, rfl, _, _⟩ := hv
  clear hr6
  go_enter Tryz.func84, Tryz.ntmps84
  go_wp2_with fail
  refine (sift_any 117 #[] s (fun _ _ => true) _ _ HV.out ⟨enters_yes, fun k r z w' _ _ _ => yes_any _ _ w'⟩ hn HR6.out).mono ?_
  rintro e w1 ⟨x, rfl, hx, hb1⟩
  rw [sift_same s _ (fun _ _ _ _ _ => rfl)] at hx
  have HX : Hid (RArg w1 x s) := hx
  obtain ⟨ax, cx, rfl, _, _⟩ := hx
  go_wp2
  go_ret
  exact ⟨_, rfl, HX.out, hb1⟩

set_option maxHeartbeats 400000 in
theorem none_any (s : Sto) (v : Value) (w : World) (hv : RArg w v s) (hn : s.length ≤ 6) :
    Calls Tryz.prog 123 #[v] w fun e w' => ∃ x, e = .returned x ∧ RArg w' x (clearS s) ∧ Below w.heap.size w w' := by
  obtain ⟨a, c, rfl, _, _⟩ := hv
  obtain ⟨wm, hrun, hrows, hbm⟩ := make_store s.length hn w
  have HX : Hid (RArg wm (.slice (some ⟨w.heap.size, 0, none⟩) s.length s.length) (clearS s)) := by
    obtain ⟨h1, _, _⟩ := hrows []
    have hB : w.heap.size < wm.heap.size := (h1.lt w.heap.size rfl).2
    refine ⟨_, s.length, by rw [clear_len], ⟨by rw [clear_len]; exact Nat.le_refl _, by unfold maxLen; omega⟩, fun i r hr => ?_⟩
    have hi : i < s.length := by rw [← clear_len s]; exact (List.getElem?_eq_some_iff.1 hr).1
    rw [clear_get s i r hr]
    refine ⟨w.heap.size, 0, .slice none 0 0, rfl, hB, ?_, ⟨none, 0, rfl, ⟨Nat.le_refl _, Nat.zero_le _⟩, fun j z hz => by simp at hz⟩⟩
    rw [Nat.zero_add, h1.cellAt i (by omega)]
    simp [hi]
  have HB : Hid (Below w.heap.size w wm) := hbm
  obtain ⟨B, hB⟩ : ∃ B, B = w.heap.size := ⟨_, rfl⟩
  rw [← hB] at hrun HX
  clear hrows hbm hB
  go_enter Tryz.func123, Tryz.ntmps123
  go_wp2
  go_ret
  exact ⟨_, rfl, HX.out, HB.out⟩
end Go.Proofs.YtijohkhpigjbkadGreatDoor
/-
  WALKS: package narrow: the closures of Unit.
-/
namespace Go.Proofs.YtijohkhpigjbkadGreatDoor
open Go.RowKit

set_option maxHeartbeats 400000 in
set_option maxRecDepth 100000 in
theorem live_in (l : MLit) (z : Int) (b : Nat) (w : World) (h0 : w.cell? ⟨b, 0, none⟩ = some (.int .i64 l.var)) (h1 : w.cell? ⟨b, 1, none⟩ = some (.int .i64 l.op)) (h2 : w.cell? ⟨b, 2, none⟩ = some (.int .i64 l.n)) :
    Calls Tryz.prog 121 #[.int .i64 z, .pointer (some ⟨b, 0, none⟩)] w fun e w' => e = .returned (.bool (litV z l)) ∧ Below w.heap.size w w' := by
  go_enter Tryz.func121, Tryz.ntmps121
  go_wp2_with fail
  refine (lit_true l z _).mono ?_
  rintro e w1 ⟨rfl, hb1⟩
  go_wp2
  go_ret
  exact ⟨rfl, hb1⟩
theorem enters_livein (args : Array Value) (w' : World) : Sem.run Tryz.prog (callFunc 121 args) w' = .ok (.enter 121 args) w' := by
  simp [callFunc, go_sem, Tryz.func121, Tryz.f121]

set_option maxHeartbeats 800000 in
set_option maxRecDepth 100000 in
theorem live_any (s : Sto) (l : MLit) (v : Value) (b : Nat) (w : World) (hv : RArg w v s) (hb : w.cell? ⟨b, 0, none⟩ = some v) (h0 : 0 ≤ l.var) (h1 : l.var < (s.length : Int)) :
    Calls Tryz.prog 119 #[.agg #[.int .i64 l.var, .int .i64 l.op, .int .i64 l.n], .pointer (some ⟨b, 0, none⟩)] w fun e w' => e = .returned (.bool (liveB s l)) ∧ Below w.heap.size w w' := by
  obtain ⟨a, c, rfl, hm, hr⟩ := hv
  obtain ⟨j, hj⟩ : ∃ j : Nat, l.var = (j : Int) := ⟨l.var.toNat, by omega⟩
  have hjl : j < s.length := by omega
  obtain ⟨r, hrr⟩ : ∃ r, s[j]? = some r := ⟨s[j], by simp [hjl]⟩
  obtain ⟨b9, off9, x, rfl, hb9, g9, hx⟩ := hr j r hrr
  have HX : Hid (IArg w x r) := hx
  obtain ⟨a5, c5, rfl, _, _⟩ := hx
  have HRO : Hid (liveB s l = r.any fun z => litV z l) := by
    show _ = _
    unfold liveB rowOf
    rw [hj, Int.toNat_natCast, List.getD_eq_getElem?_getD, hrr]; rfl
  rw [HRO.out]
  have HJ : Hid (l.var = (j : Int)) := hj
  rw [hj]
  have hbl : b < w.heap.size := World.block_lt_of_cell? w _ hb
  unfold maxLen at hm
  obtain ⟨hm1, hm⟩ := hm
  clear hr hrr hj HRO h0 h1
  go_enter Tryz.func119, Tryz.ntmps119
  go_wp2_with fail
  refine (containsf_ints 121 _ (fun z => litV z l) r _ _ (IArg.below (below_alloc _ _) HX.out) ⟨enters_livein, ?_⟩).mono ?_
  · intro z w' hb'
    refine live_in l z w.heap.size w' ?_ ?_ ?_
    · rw [HJ.out]; exact (hb'.cell (by simp)).trans (World.cell?_alloc_at _ _ _ 0 (by simp))
    · exact (hb'.cell (by simp)).trans (World.cell?_alloc_at _ _ _ 1 (by simp))
    · exact (hb'.cell (by simp)).trans (World.cell?_alloc_at _ _ _ 2 (by simp))
  rintro e w1 ⟨rfl, hb1⟩
  have hb2 : Below w.heap.size w w1 := (below_alloc _ _).trans (hb1.mono (by simp))
  clear hb1
  go_wp2
  go_ret
  exact ⟨rfl, hb2⟩
theorem enters_live (args : Array Value) (w' : World) : Sem.run Tryz.prog (callFunc 119 args) w' = .ok (.enter 119 args) w' := by
  simp [callFunc, go_sem, Tryz.func119, Tryz.f119]

set_option maxHeartbeats 800000 in
set_option maxRecDepth 100000 in
theorem other_any (s : Sto) (l : MLit) (x : Int) (v : Value) (bs bv bo : Nat) (w : World) (hv : RArg w v s) (hb : w.cell? ⟨bs, 0, none⟩ = some v) (h1 : w.cell? ⟨bv, 0, none⟩ = some (.int .i64 x))
    (h2 : w.cell? ⟨bo, 0, none⟩ = some (.func (.func 119) #[] #[.pointer (some ⟨bs, 0, none⟩)])) (h3 : 0 ≤ l.var) (h4 : l.var < (s.length : Int)) :
    Calls Tryz.prog 124 #[.agg #[.int .i64 l.var, .int .i64 l.op, .int .i64 l.n], .pointer (some ⟨bv, 0, none⟩), .pointer (some ⟨bo, 0, none⟩)] w fun e w' => e = .returned (.bool (!decide (l.var = x) && liveB s l)) ∧ Below w.heap.size w w' := by
  have HVA : Hid (∀ w' : World, Below w.heap.size w w' → RArg w' v s) := fun w' h => RArg.below h hv
  have HB : Hid (w.cell? ⟨bs, 0, none⟩ = some v) := hb
  have lb : bs < w.heap.size := World.block_lt_of_cell? w _ hb
  have l1 : bv < w.heap.size := World.block_lt_of_cell? w _ h1
  have l2 : bo < w.heap.size := World.block_lt_of_cell? w _ h2
  clear hb hv
  by_cases hq : l.var = x
  · have g0 : (l.var != x) = false := by simpa using hq
    have HN : Hid ((!decide (l.var = x) && liveB s l) = false) := by show _ = _; rw [decide_eq_true hq]; rfl
    rw [HN.out]
    clear hq
    go_enter Tryz.func124, Tryz.ntmps124
    go_wp2
    go_ret
    exact ⟨rfl, below_alloc _ _⟩
  · have g0 : (l.var != x) = true := by simpa using hq
    have HN : Hid ((!decide (l.var = x) && liveB s l) = liveB s l) := by show _ = _; rw [decide_eq_false hq]; rfl
    rw [HN.out]
    clear hq
    go_enter Tryz.func124, Tryz.ntmps124
    go_wp2_with fail
    refine (live_any s l _ bs _ (HVA.out _ (below_alloc _ _)) ((World.cell?_alloc_past _ _ _ lb).trans HB.out) h3 h4).mono ?_
    rintro e w1 ⟨rfl, hb1⟩
    have hb2 : Below w.heap.size w w1 := (below_alloc _ _).trans (hb1.mono (by simp))
    clear hb1
    go_wp2
    go_ret
    exact ⟨rfl, hb2⟩
theorem enters_other (args : Array Value) (w' : World) : Sem.run Tryz.prog (callFunc 124 args) w' = .ok (.enter 124 args) w' := by
  simp [callFunc, go_sem, Tryz.func124, Tryz.f124]

set_option maxHeartbeats 400000 in
set_option maxRecDepth 100000 in
theorem goes_any (c : Cla) (k : Nat) (z : Int) (u : Value) (bc bv : Nat) (w : World) (hu : LArg w u c) (h1 : w.cell? ⟨bc, 0, none⟩ = some u) (h2 : w.cell? ⟨bv, 0, none⟩ = some (.int .i64 (k : Int))) :
    Calls Tryz.prog 125 #[.int .i64 z, .pointer (some ⟨bc, 0, none⟩), .pointer (some ⟨bv, 0, none⟩)] w fun e w' => e = .returned (.bool (!oneB c k z)) ∧ Below w.heap.size w w' := by
  have HU : Hid (LArg w u c) := hu
  obtain ⟨a, cc, rfl, _, _⟩ := hu
  go_enter Tryz.func125, Tryz.ntmps125
  go_wp2_with fail
  refine (one_of c k z _ _ HU.out).mono ?_
  rintro e w1 ⟨rfl, hb1⟩
  go_wp2
  go_ret
  exact ⟨rfl, hb1⟩
theorem enters_goes (args : Array Value) (w' : World) : Sem.run Tryz.prog (callFunc 125 args) w' = .ok (.enter 125 args) w' := by
  simp [callFunc, go_sem, Tryz.func125, Tryz.f125]

set_option maxHeartbeats 800000 in
set_option maxRecDepth 100000 in
theorem left_any (c : Cla) (j k : Nat) (z : Int) (u : Value) (bc bv bg : Nat) (w : World) (hu : LArg w u c) (h1 : w.cell? ⟨bc, 0, none⟩ = some u) (h2 : w.cell? ⟨bv, 0, none⟩ = some (.int .i64 (j : Int)))
    (h3 : w.cell? ⟨bg, 0, none⟩ = some (.func (.func 125) #[] #[.pointer (some ⟨bc, 0, none⟩), .pointer (some ⟨bv, 0, none⟩)])) :
    Calls Tryz.prog 126 #[.int .i64 (k : Int), .int .i64 z, .pointer (some ⟨bv, 0, none⟩), .pointer (some ⟨bg, 0, none⟩)] w fun e w' => e = .returned (.bool (decide ((k : Int) ≠ (j : Int)) || oneB c k z)) ∧ Below w.heap.size w w' := by
  by_cases hq : (k : Int) = (j : Int)
  · have g0 : ((k : Int) != (j : Int)) = false := by simpa using hq
    have hkj : k = j := by omega
    have HN : Hid ((decide ((k : Int) ≠ (j : Int)) || oneB c k z) = oneB c j z) := by show _ = _; rw [hkj]; simp
    have HG : Hid (Calls Tryz.prog 125 #[.int .i64 z, .pointer (some ⟨bc, 0, none⟩), .pointer (some ⟨bv, 0, none⟩)] w fun e w' => e = .returned (.bool (!oneB c j z)) ∧ Below w.heap.size w w') := goes_any c j z u bc bv w hu h1 h2
    rw [HN.out]
    obtain ⟨B, hB⟩ : ∃ B, oneB c j z = B := ⟨_, rfl⟩
    rw [hB] at HG ⊢
    clear hq hkj hu h1 hB HN
    go_enter Tryz.func126, Tryz.ntmps126
    go_wp2_with fail
    refine HG.out.mono ?_
    rintro e w1 ⟨rfl, hb1⟩
    go_wp2
    go_ret
    exact ⟨by cases B <;> rfl, hb1⟩
  · have g0 : ((k : Int) != (j : Int)) = true := by simpa using hq
    have HN : Hid ((decide ((k : Int) ≠ (j : Int)) || oneB c k z) = true) := by show _ = _; rw [decide_eq_true hq]; rfl
    rw [HN.out]
    clear hq hu h1 h3
    go_enter Tryz.func126, Tryz.ntmps126
    go_wp2
    go_ret
    exact ⟨rfl, Below.refl _ _⟩
theorem enters_left (args : Array Value) (w' : World) : Sem.run Tryz.prog (callFunc 126 args) w' = .ok (.enter 126 args) w' := by
  simp [callFunc, go_sem, Tryz.func126, Tryz.f126]
end Go.Proofs.YtijohkhpigjbkadGreatDoor
/-
  WALK: package narrow: Unit.
-/
namespace Go.Proofs.YtijohkhpigjbkadGreatDoor
open Go.RowKit

theorem nb2 (w : World) (o1 o2 : Obj) : Below w.heap.size w ((w.alloc o1).alloc o2) := (below_alloc _ _).alloc (by simp) _
theorem nb3 (w : World) (o1 o2 o3 : Obj) : Below w.heap.size w (((w.alloc o1).alloc o2).alloc o3) := ((below_alloc _ _).alloc (by simp) _).alloc (by simp; omega) _
theorem held_call {w2 Y w3 : World} {A : Prop} (h : Below w2.heap.size w2 Y ∧ A) (hb : Below Y.heap.size Y w3) : Below w2.heap.size w2 w3 := h.1.trans (hb.mono h.1.size)

set_option maxHeartbeats 1600000 in
set_option maxRecDepth 100000 in
theorem unit_any (s : Sto) (c : Cla) (v u : Value) (w : World) (hv : RArg w v s) (hu : LArg w u c) (hc : ClaIn s c) (hn : s.length ≤ 6) (hr6 : ∀ r ∈ s, r.length ≤ 6) :
    Calls Tryz.prog 85 #[v, u] w fun e w' => ∃ x, e = .returned x ∧ RArg w' x (unitS s c) ∧ Below w.heap.size w w' := by
  have HVA : Hid (∀ w' : World, Below w.heap.size w w' → RArg w' v s) := fun w' h => RArg.below h hv
  have HUA : Hid (∀ w' : World, Below w.heap.size w w' → LArg w' u c) := fun w' h => LArg.below h hu
  have HC : Hid (∀ l ∈ c, 0 ≤ l.var ∧ l.var < (s.length : Int)) := hc
  have HR6 : Hid (∀ r ∈ s, r.length ≤ 6) := hr6
  obtain ⟨a1, c1, rfl, hm1, _⟩ := hv
  obtain ⟨a2, c2, rfl, hm2, _⟩ := hu
  unfold maxLen at hm1 hm2
  obtain ⟨hm11, hm1⟩ := hm1
  obtain ⟨hm21, hm2⟩ := hm2
  obtain ⟨F, hF⟩ : ∃ F, failedS s = F := ⟨_, rfl⟩
  have HF : Hid (failedS s = F) := hF
  clear hc hr6 hF
  go_enter Tryz.func85, Tryz.ntmps85
  go_wp2_with fail
  refine (sift_failed s _ _ (HVA.out _ (nb2 _ _ _))).mono ?_
  rintro e w0 ⟨rfl, rfl⟩
  rw [HF.out]
  cases F
  · go_wp2_with fail
    refine (indexf_lits 119 _ (liveB s) c _ _ (HUA.out _ (nb3 _ _ _ _)) ⟨enters_live, ?_⟩).mono ?_
    · intro l w' hl hb'
      exact live_any s l _ w.heap.size w' (HVA.out _ ((nb3 _ _ _ _).trans (hb'.mono (by simp; omega)))) ((hb'.cell (by simp; omega)).trans ((World.cell?_alloc_past _ _ _ (by simp; omega)).trans ((World.cell?_alloc_past _ _ _ (by simp)).trans (World.cell?_alloc_at _ _ _ 0 (by simp))))) (HC.out l hl).1 (HC.out l hl).2
    rintro e w1 ⟨⟨z, rfl, hz⟩, hb1⟩
    have d0 : w1.cell? ⟨w.heap.size, 0, none⟩ = some (.slice a1 s.length c1) := (hb1.cell (by simp; omega)).trans ((World.cell?_alloc_past _ _ _ (by simp; omega)).trans ((World.cell?_alloc_past _ _ _ (by simp)).trans (World.cell?_alloc_at _ _ _ 0 (by simp))))
    have d1 : w1.cell? ⟨w.heap.size + 1, 0, none⟩ = some (.slice a2 c.length c2) := (hb1.cell (by simp)).trans ((World.cell?_alloc_past _ _ _ (by simp)).trans (World.cell?_alloc_at _ _ _ 0 (by simp)))
    have d2 : w1.cell? ⟨w.heap.size + 2, 0, none⟩ = some (.func (.func 119) #[] #[.pointer (some ⟨w.heap.size, 0, none⟩)]) := (hb1.cell (by simp)).trans (World.cell?_alloc_at _ _ _ 0 (by simp))
    have HB1 : Hid (Below w.heap.size w w1) := (nb3 _ _ _ _).trans (hb1.mono (by simp; omega))
    have hs1 : w.heap.size + 3 ≤ w1.heap.size := by simpa using hb1.size
    clear hb1
    rcases hz with ⟨rfl, hno⟩ | ⟨k, t, rfl, ht, hlt⟩
    · have HU : Hid (unitS s c = clearS s) := by show _ = _; rw [unit_none s c HF.out hno, clear_sift]
      clear hno
      go_wp2_with fail
      refine (none_any s _ _ (HVA.out _ HB1.out) hn).mono ?_
      rintro e w2 ⟨x, rfl, hx, hb2⟩
      have HX : Hid (RArg w2 x (clearS s)) := hx
      obtain ⟨ax, cx, rfl, _, _⟩ := hx
      have hB2 : Below w.heap.size w w2 := HB1.out.trans (hb2.mono HB1.out.size)
      clear hb2
      go_wp2
      go_ret
      rw [HU.out]
      exact ⟨_, rfl, HX.out, hB2⟩
    · have HM : Hid (t ∈ c) := List.mem_of_getElem? ht
      have HLV : Hid (liveB s t = true) := hlt
      have hkl : k < c.length := (List.getElem?_eq_some_iff.1 ht).1
      obtain ⟨a2', c2', hva, _, hrc⟩ := HUA.out _ HB1.out
      obtain ⟨b, off, hax, hb, g0, _, _⟩ := hrc k t ht
      have ha2 : a2 = some ⟨b, off, none⟩ := by cases hva; exact hax
      subst ha2
      obtain ⟨q1, q2⟩ := HC.out t HM.out
      obtain ⟨j, hj⟩ : ∃ j : Nat, t.var = (j : Int) := ⟨t.var.toNat, by omega⟩
      have HJ : Hid (t.var = (j : Int)) := hj
      rw [hj] at g0
      have hjl : j < s.length := by omega
      obtain ⟨r, hr⟩ : ∃ r, s[j]? = some r := ⟨s[j], by simp [hjl]⟩
      have HRR : Hid (s[j]? = some r) := hr
      clear hva hrc hax ht hlt q1 q2 hj hr
      have l0 : w.heap.size < w1.heap.size := by omega
      have l1 : w.heap.size + 1 < w1.heap.size := by omega
      have l2 : w.heap.size + 2 < w1.heap.size := by omega
      go_wp2_with fail
      refine (containsf_lits 124 _ (fun l => !decide (l.var = (j : Int)) && liveB s l) c _ _ (HUA.out _ (HB1.out.alloc HB1.out.size _)) ⟨enters_other, ?_⟩).mono ?_
      · intro l w' hl hb'
        exact other_any s l j _ w.heap.size w1.heap.size (w.heap.size + 2) w' (HVA.out _ ((HB1.out.alloc HB1.out.size _).trans (hb'.mono (by simp; omega)))) ((hb'.cell (by simp; omega)).trans ((World.cell?_alloc_past _ _ _ l0).trans d0)) ((hb'.cell (by simp)).trans (World.cell?_alloc_at _ _ _ 0 (by simp))) ((hb'.cell (by simp; omega)).trans ((World.cell?_alloc_past _ _ _ l2).trans d2)) (HC.out l hl).1 (HC.out l hl).2
      rintro e w2 ⟨rfl, hb2⟩
      have e0 : w2.cell? ⟨w.heap.size, 0, none⟩ = some (.slice a1 s.length c1) := (hb2.cell (by simp; omega)).trans ((World.cell?_alloc_past _ _ _ l0).trans d0)
      have e1 : w2.cell? ⟨w.heap.size + 1, 0, none⟩ = some (.slice (some ⟨b, off, none⟩) c.length c2) := (hb2.cell (by simp; omega)).trans ((World.cell?_alloc_past _ _ _ l1).trans d1)
      have e2 : w2.cell? ⟨w1.heap.size, 0, none⟩ = some (.int .i64 (j : Int)) := (hb2.cell (by simp)).trans (World.cell?_alloc_at _ _ _ 0 (by simp))
      have HB2 : Hid (Below w.heap.size w w2) := (HB1.out.alloc HB1.out.size _).trans (hb2.mono (by simp; omega))
      have hs2 : w1.heap.size + 1 ≤ w2.heap.size := by simpa using hb2.size
      obtain ⟨O, hO⟩ : ∃ O, c.any (fun l => !decide (l.var = (j : Int)) && liveB s l) = O := ⟨_, rfl⟩
      have HO : Hid (c.any (fun l => !decide (l.var = t.var) && liveB s l) = O) := by show _ = _; rw [HJ.out]; exact hO
      rw [hO]
      clear hb2 hO d0 d1 d2 g0
      cases O
      · -- all live ones are of one variable
        obtain ⟨W, hW⟩ : ∃ W : World, W = w2.alloc (.cells #[.func (.func 125) #[] #[.pointer (some ⟨w.heap.size + 1, 0, none⟩), .pointer (some ⟨w1.heap.size, 0, none⟩)]] 107) := ⟨_, rfl⟩
        have HW : Hid (W = w2.alloc (.cells #[.func (.func 125) #[] #[.pointer (some ⟨w.heap.size + 1, 0, none⟩), .pointer (some ⟨w1.heap.size, 0, none⟩)]] 107)) := hW
        have m0 : w.heap.size < w2.heap.size := by omega
        have m1 : w.heap.size + 1 < w2.heap.size := by omega
        have m2 : w1.heap.size < w2.heap.size := by omega
        have HBW : Hid (Below w.heap.size w W) := by rw [hW]; exact HB2.out.alloc HB2.out.size _
        have k0 : W.cell? ⟨w.heap.size, 0, none⟩ = some (.slice a1 s.length c1) := by rw [hW]; exact (World.cell?_alloc_past _ _ _ m0).trans e0
        have k1 : W.cell? ⟨w.heap.size + 1, 0, none⟩ = some (.slice (some ⟨b, off, none⟩) c.length c2) := by rw [hW]; exact (World.cell?_alloc_past _ _ _ m1).trans e1
        have k2 : W.cell? ⟨w1.heap.size, 0, none⟩ = some (.int .i64 (j : Int)) := by rw [hW]; exact (World.cell?_alloc_past _ _ _ m2).trans e2
        have k3 : W.cell? ⟨w2.heap.size, 0, none⟩ = some (.func (.func 125) #[] #[.pointer (some ⟨w.heap.size + 1, 0, none⟩), .pointer (some ⟨w1.heap.size, 0, none⟩)]) := by rw [hW]; simp
        have hsW : W.heap.size = w2.heap.size + 1 := by rw [hW]; simp
        have HSW : Hid (W.heap.size = w2.heap.size + 1) := hsW
        have n0 : w.heap.size < W.heap.size := by omega
        have n1 : w.heap.size + 1 < W.heap.size := by omega
        have n2 : w1.heap.size < W.heap.size := by omega
        have n3 : w2.heap.size < W.heap.size := by omega
        obtain ⟨a1', c1', hva, _, hrc⟩ := HVA.out _ HBW.out
        obtain ⟨b9, off9, x, hax, hb9, g9, hix⟩ := hrc j r HRR.out
        have ha1 : a1 = some ⟨b9, off9, none⟩ := by cases hva; exact hax
        subst ha1
        have HIX : Hid (∀ w' : World, Below W.heap.size W w' → IArg w' x r) := fun w' h => IArg.below h hix
        obtain ⟨a5, c5, rfl, _, _⟩ := hix
        have HGO : Hid (∀ Y : World, Below W.heap.size W Y → Calls Tryz.prog 120 #[.slice a5 r.length c5, .func (.func 125) #[] #[.pointer (some ⟨w.heap.size + 1, 0, none⟩), .pointer (some ⟨w1.heap.size, 0, none⟩)]] Y fun e w' => e = .returned (.bool (r.any fun z => !oneB c j z)) ∧ Below Y.heap.size Y w') := by
          intro Y hY
          refine containsf_ints 125 _ (fun z => !oneB c j z) r _ _ (HIX.out _ hY) ⟨enters_goes, ?_⟩
          intro z w' hb'
          have hB' : Below W.heap.size W w' := hY.trans (hb'.mono hY.size)
          exact goes_any c j z _ (w.heap.size + 1) w1.heap.size w' (HUA.out _ (HBW.out.trans (hB'.mono HBW.out.size))) ((hB'.cell (p := ⟨w.heap.size + 1, 0, none⟩) n1).trans k1) ((hB'.cell (p := ⟨w1.heap.size, 0, none⟩) n2).trans k2)
        obtain ⟨G, hG⟩ : ∃ G, (r.any fun z => !oneB c j z) = G := ⟨_, rfl⟩
        have HG : Hid ((r.any fun z => !oneB c j z) = G) := hG
        rw [hG] at HGO
        clear hW hsW hva hrc hax hG e0 e1 e2 HSW
        go_wp2_with fail
        rw [← HW.out]
        clear HW
        go_region_held3 (fun w' => Below W.heap.size W w' ∧ w'.cell? ⟨w.heap.size, 0, none⟩ = some (.slice (some ⟨b9, off9, none⟩) s.length c1) ∧ w'.cell? ⟨w1.heap.size, 0, none⟩ = some (.int .i64 (j : Int)) ∧ w'.cell? ⟨w2.heap.size, 0, none⟩ = some (.func (.func 125) #[] #[.pointer (some ⟨w.heap.size + 1, 0, none⟩), .pointer (some ⟨w1.heap.size, 0, none⟩)]) ∧ w'.cell? ⟨b9, off9 + j, none⟩ = some (.slice a5 r.length c5))
          ((refine (fun (hB : Below W.heap.size W _) => ⟨hB, (hB.cell (p := ⟨w.heap.size, 0, none⟩) n0).trans k0, (hB.cell (p := ⟨w1.heap.size, 0, none⟩) n2).trans k2, (hB.cell (p := ⟨w2.heap.size, 0, none⟩) n3).trans k3, (hB.cell (p := ⟨b9, off9 + j, none⟩) hb9).trans g9⟩ : Below W.heap.size W _ → _) ?_; first | exact (Below.refl _ _).drew | exact held_call (by assumption) hbq))
          (first
            | (go_at_call 120; refine (HGO.out _ (show Below W.heap.size W _ ∧ _ ∧ _ ∧ _ ∧ _ by assumption).1).mono ?_; rintro e w3 ⟨rfl, hbq⟩; have hB3 := held_call (by assumption) hbq))
        have HB3 : Hid (Below W.heap.size W w3) := by first | exact hB3 | assumption
        have HB4 : Hid (Below w.heap.size w w3) := HBW.out.trans (HB3.out.mono HBW.out.size)
        have p0 := (HB3.out.cell (p := ⟨w.heap.size, 0, none⟩) n0).trans k0
        cases G
        · have HU : Hid (unitS s c = s) := unit_stays s c HF.out t HM.out HLV.out HO.out j r HJ.out HRR.out HG.out
          go_wp2
          go_ret
          rw [HU.out]
          exact ⟨_, rfl, HVA.out _ HB4.out, HB4.out⟩
        · have HU : Hid (unitS s c = siftS s (fun k z => decide ((k : Int) ≠ (j : Int)) || oneB c k z)) := by show _ = _; rw [unit_one s c HF.out t HM.out HLV.out HO.out, HJ.out]
          go_wp2_with fail
          refine (sift_any 126 _ s (fun k z => decide ((k : Int) ≠ (j : Int)) || oneB c k z) _ _ (HVA.out _ HB4.out) ⟨enters_left, ?_⟩ hn HR6.out).mono ?_
          · intro k q z w' hk _ hb'
            have hB' : Below W.heap.size W w' := HB3.out.trans (hb'.mono HB3.out.size)
            exact left_any c j k z _ (w.heap.size + 1) w1.heap.size w2.heap.size w' (HUA.out _ (HBW.out.trans (hB'.mono HBW.out.size))) ((hB'.cell (p := ⟨w.heap.size + 1, 0, none⟩) n1).trans k1) ((hB'.cell (p := ⟨w1.heap.size, 0, none⟩) n2).trans k2) ((hB'.cell (p := ⟨w2.heap.size, 0, none⟩) n3).trans k3)
          rintro e w4 ⟨x, rfl, hx, hb4⟩
          obtain ⟨M, hM⟩ : ∃ M, siftS s (fun k z => decide ((k : Int) ≠ (j : Int)) || oneB c k z) = M := ⟨_, rfl⟩
          have HM2 : Hid (unitS s c = M) := HU.out.trans hM
          rw [hM] at hx
          clear hM
          have HX : Hid (RArg w4 x M) := hx
          obtain ⟨ax, cx, rfl, _, _⟩ := hx
          have hB5 : Below w.heap.size w w4 := HB4.out.trans (hb4.mono HB4.out.size)
          clear hb4
          go_wp2
          go_ret
          rw [HM2.out]
          exact ⟨_, rfl, HX.out, hB5⟩
      · have HU : Hid (unitS s c = s) := unit_many s c HF.out t HM.out HLV.out HO.out
        go_wp2
        go_ret
        rw [HU.out]
        exact ⟨_, rfl, HVA.out _ HB2.out, HB2.out⟩
  · have HU : Hid (unitS s c = s) := by show _ = _; unfold unitS; rw [HF.out, if_pos rfl]
    go_wp2
    go_ret
    rw [HU.out]
    exact ⟨_, rfl, HVA.out _ (nb2 _ _ _), nb2 _ _ _⟩
end Go.Proofs.YtijohkhpigjbkadGreatDoor
/-
  WALKS: package store: Meet.
-/
namespace Go.Proofs.YtijohkhpigjbkadGreatDoor
open Go.RowKit

def meetA (m : Mod) (s t : Sto) : Sto × Int := if checkL m [s, t] = 0 then (meetS s t, 0) else ([], checkL m [s, t])
theorem rows_short (m : Mod) (s : Sto) (hm : checkM m = 0) (hs : checkV m.vars s = 0) : s.length ≤ 6 ∧ ∀ r ∈ s, r.length ≤ 6 := by
  have h1 := (checkM_vars m hm).2.1
  have h2 := ((checkV_ok _ _).1 hs).1
  refine ⟨by omega, fun r hr => ?_⟩
  obtain ⟨i, hi⟩ := List.mem_iff_getElem?.1 hr
  exact row_short m s hm hs i r hi

end Go.Proofs.YtijohkhpigjbkadGreatDoor
/-
  WALKS: package clause: Check, Holds, checkIn, Unit, Deny.
-/
namespace Go.Proofs.YtijohkhpigjbkadGreatDoor
open Go.RowKit

def ccheckA (m : Mod) (c : Cla) : Int := if checkM m = 0 then claE m.vars c else checkM m
def choldsA (m : Mod) (c : Cla) (vals : List Int) : Bool × Int := if ccheckA m c = 0 then (if vals.length = m.vars.length then (claB c vals, 0) else (false, 1)) else (false, ccheckA m c)
def cinE (m : Mod) (s : Sto) (c : Cla) : Int := if checkL m [s] = 0 then claE m.vars c else checkL m [s]
def cunitA (m : Mod) (s : Sto) (c : Cla) : Sto × Int := if cinE m s c = 0 then (unitS s c, 0) else ([], cinE m s c)
def cdenyA (m : Mod) (s : Sto) (c : Cla) : Sto × Int := if cinE m s c = 0 then (denyS s c, 0) else ([], cinE m s c)
theorem cinE_ok (m : Mod) (s : Sto) (c : Cla) (h : cinE m s c = 0) : checkL m [s] = 0 ∧ claE m.vars c = 0 := by
  unfold cinE at h
  split at h
  · rename_i h0; exact ⟨h0, h⟩
  · contradiction
theorem ccheck_ok (m : Mod) (c : Cla) (h : ccheckA m c = 0) : checkM m = 0 ∧ claE m.vars c = 0 := by
  unfold ccheckA at h
  split at h
  · rename_i h0; exact ⟨h0, h⟩
  · contradiction
theorem claE_fine (vs : List MVar) (c : Cla) (h : claE vs c = 0) : ∀ l ∈ c, 0 ≤ l.var ∧ l.var < (vs.length : Int) := by
  unfold claE at h
  split at h
  · cases h
  · intro l hl
    exact ((litE_ok vs l).1 (firstE_all _ h _ (List.mem_map.2 ⟨l, hl, rfl⟩))).1

set_option maxHeartbeats 800000 in
set_option maxRecDepth 100000 in
theorem ccheck_any (m : Mod) (c : Cla) (vs cs u : Value) (w : World) (hm : MArg w vs cs m) (hu : LArg w u c) :
    Calls Tryz.prog 48 #[modV vs cs m, u] w fun e w' => e = .returned (.int .i64 (ccheckA m c)) ∧ Below w.heap.size w w' := by
  have HMA : Hid (∀ w' : World, Below w.heap.size w w' → MArg w' vs cs m) := fun w' h => MArg.below h hm
  have HUA : Hid (∀ w' : World, Below w.heap.size w w' → LArg w' u c) := fun w' h => LArg.below h hu
  obtain ⟨⟨a1, c1, rfl, _, _⟩, ⟨a2, c2, rfl, _, _⟩⟩ := hm
  obtain ⟨a3, c3, rfl, _, _⟩ := hu
  obtain ⟨R, hR⟩ : ∃ R, ccheckA m c = R := ⟨_, rfl⟩
  rw [hR]
  obtain ⟨er, her⟩ : ∃ er, checkM m = er := ⟨_, rfl⟩
  have HER : Hid (checkM m = er) := her
  have HE : Hid (R = if er = 0 then claE m.vars c else er) := by rw [← hR, ← her]; rfl
  clear hR her
  unfold modV
  go_enter Tryz.func48, Tryz.ntmps48
  go_wp2_with fail
  refine (check_model m (.slice a1 m.vars.length c1) (.slice a2 m.cons.length c2) _ ?_).mono ?_
  · exact HMA.out _ (below_alloc _ _)
  rintro e w1 ⟨rfl, hb1⟩
  rw [HER.out]
  have g0 : w1.cell? ⟨w.heap.size, 0, none⟩ = some (.slice a1 m.vars.length c1) := (hb1.cell (by simp)).trans (by simp)
  have HB1 : Hid (Below w.heap.size w w1) := (below_alloc _ _).trans (hb1.mono (by simp))
  clear hb1
  by_cases he : er = 0
  · subst he
    have HN : Hid (R = claE m.vars c) := by rw [HE.out, if_pos rfl]; rfl
    go_wp2_with fail
    refine (cla_check m.vars c _ _ _ (HMA.out _ HB1.out).1 (HUA.out _ HB1.out)).mono ?_
    rintro e w2 ⟨rfl, hb2⟩
    have hb3 : Below w.heap.size w w2 := HB1.out.trans (hb2.mono HB1.out.size)
    clear hb2
    go_wp2
    go_ret
    exact ⟨ret_int HN.out.symm, hb3⟩
  · have HN : Hid (R = er) := by rw [HE.out, if_neg he]; rfl
    have he2 : (er != 0) = true := by simpa using he
    clear he
    go_wp2
    go_ret
    exact ⟨ret_int HN.out.symm, HB1.out⟩

set_option maxHeartbeats 800000 in
set_option maxRecDepth 100000 in
theorem cin_any (m : Mod) (s : Sto) (c : Cla) (vs cs v u : Value) (w : World) (hm : MArg w vs cs m) (hv : RArg w v s) (hu : LArg w u c) :
    Calls Tryz.prog 83 #[modV vs cs m, v, u] w fun e w' => e = .returned (.int .i64 (cinE m s c)) ∧ Below w.heap.size w w' := by
  have HMA : Hid (∀ w' : World, Below w.heap.size w w' → MArg w' vs cs m) := fun w' h => MArg.below h hm
  have HVA : Hid (∀ w' : World, Below w.heap.size w w' → RArg w' v s) := fun w' h => RArg.below h hv
  have HUA : Hid (∀ w' : World, Below w.heap.size w w' → LArg w' u c) := fun w' h => LArg.below h hu
  obtain ⟨⟨a1, c1, rfl, _, _⟩, ⟨a2, c2, rfl, _, _⟩⟩ := hm
  obtain ⟨a3, c3, rfl, _, _⟩ := hv
  obtain ⟨a4, c4, rfl, _, _⟩ := hu
  obtain ⟨R, hR⟩ : ∃ R, cinE m s c = R := ⟨_, rfl⟩
  rw [hR]
  obtain ⟨er, her⟩ : ∃ er, checkL m [s] = er := ⟨_, rfl⟩
  have HER : Hid (checkL m [s] = er) := her
  have HE : Hid (R = if er = 0 then claE m.vars c else er) := by rw [← hR, ← her]; rfl
  clear hR her
  unfold modV
  go_enter Tryz.func83, Tryz.ntmps83
  go_wp2_with fail
  refine (scheck_any m s (.slice a1 m.vars.length c1) (.slice a2 m.cons.length c2) _ _ ?_ ?_).mono ?_
  · exact HMA.out _ (below_alloc _ _)
  · exact HVA.out _ (below_alloc _ _)
  rintro e w1 ⟨rfl, hb1⟩
  rw [HER.out]
  have g0 : w1.cell? ⟨w.heap.size, 0, none⟩ = some (.slice a1 m.vars.length c1) := (hb1.cell (by simp)).trans (by simp)
  have HB1 : Hid (Below w.heap.size w w1) := (below_alloc _ _).trans (hb1.mono (by simp))
  clear hb1
  by_cases he : er = 0
  · subst he
    have HN : Hid (R = claE m.vars c) := by rw [HE.out, if_pos rfl]; rfl
    go_wp2_with fail
    refine (cla_check m.vars c _ _ _ (HMA.out _ HB1.out).1 (HUA.out _ HB1.out)).mono ?_
    rintro e w2 ⟨rfl, hb2⟩
    have hb3 : Below w.heap.size w w2 := HB1.out.trans (hb2.mono HB1.out.size)
    clear hb2
    go_wp2
    go_ret
    exact ⟨ret_int HN.out.symm, hb3⟩
  · have HN : Hid (R = er) := by rw [HE.out, if_neg he]; rfl
    have he2 : (er != 0) = true := by simpa using he
    clear he
    go_wp2
    go_ret
    exact ⟨ret_int HN.out.symm, HB1.out⟩

set_option maxHeartbeats 800000 in
set_option maxRecDepth 100000 in
theorem cholds_any (m : Mod) (c : Cla) (vals : List Int) (vs cs u v : Value) (w : World) (hm : MArg w vs cs m) (hu : LArg w u c) (hv : IArg w v vals) :
    Calls Tryz.prog 21 #[modV vs cs m, u, v] w fun e w' => e = .returned (.tuple #[.bool (choldsA m c vals).1, .int .i64 (choldsA m c vals).2]) ∧ Below w.heap.size w w' := by
  have HMA : Hid (∀ w' : World, Below w.heap.size w w' → MArg w' vs cs m) := fun w' h => MArg.below h hm
  have HUA : Hid (∀ w' : World, Below w.heap.size w w' → LArg w' u c) := fun w' h => LArg.below h hu
  have HVA : Hid (∀ w' : World, Below w.heap.size w w' → IArg w' v vals) := fun w' h => IArg.below h hv
  obtain ⟨⟨a1, c1, rfl, _, _⟩, ⟨a2, c2, rfl, _, _⟩⟩ := hm
  obtain ⟨a3, c3, rfl, _, _⟩ := hu
  obtain ⟨a4, c4, rfl, _, _⟩ := hv
  obtain ⟨R, hR⟩ : ∃ R, choldsA m c vals = R := ⟨_, rfl⟩
  rw [hR]
  obtain ⟨er, her⟩ : ∃ er, ccheckA m c = er := ⟨_, rfl⟩
  have HER : Hid (ccheckA m c = er) := her
  have HE : Hid (R = if er = 0 then (if vals.length = m.vars.length then (claB c vals, 0) else (false, 1)) else (false, er)) := by rw [← hR, ← her]; rfl
  clear hR her
  unfold modV
  go_enter Tryz.func21, Tryz.ntmps21
  go_wp2_with fail
  refine (ccheck_any m c (.slice a1 m.vars.length c1) (.slice a2 m.cons.length c2) _ _ ?_ ?_).mono ?_
  · exact HMA.out _ (below_alloc _ _)
  · exact HUA.out _ (below_alloc _ _)
  rintro e w1 ⟨rfl, hb1⟩
  rw [HER.out]
  have g0 : w1.cell? ⟨w.heap.size, 0, none⟩ = some (.slice a1 m.vars.length c1) := (hb1.cell (by simp)).trans (by simp)
  have HB1 : Hid (Below w.heap.size w w1) := (below_alloc _ _).trans (hb1.mono (by simp))
  clear hb1
  by_cases he : er = 0
  · subst he
    by_cases hl : vals.length = m.vars.length
    · have HN : Hid (R = (c.any (litB vals), 0)) := by rw [HE.out, if_pos rfl, if_pos hl]; rfl
      have HCI : Hid (∀ l ∈ c, 0 ≤ l.var ∧ l.var < (vals.length : Int)) := by rw [hl]; exact claE_fine _ _ (ccheck_ok m c HER.out).2
      have hq : ((vals.length : Int) != (m.vars.length : Int)) = false := by simp [hl]
      clear hl
      go_wp2_with fail
      refine (clause_true c vals _ _ _ (HUA.out _ HB1.out) (HVA.out _ HB1.out) HCI.out).mono ?_
      rintro e w2 ⟨rfl, hb2⟩
      have hb3 : Below w.heap.size w w2 := HB1.out.trans (hb2.mono HB1.out.size)
      obtain ⟨B, hB⟩ : ∃ B, c.any (litB vals) = B := ⟨_, rfl⟩
      rw [hB] at HN ⊢
      clear hb2 hB
      go_wp2
      go_ret2
      exact ⟨by rw [HN.out]; rfl, hb3⟩
    · have HN : Hid (R = (false, 1)) := by rw [HE.out, if_pos rfl, if_neg hl]; rfl
      have hq : ((vals.length : Int) != (m.vars.length : Int)) = true := by simp; omega
      clear hl
      go_wp2
      go_ret2
      exact ⟨by rw [HN.out]; rfl, HB1.out⟩
  · have HN : Hid (R = (false, er)) := by rw [HE.out, if_neg he]; rfl
    have he2 : (er != 0) = true := by simpa using he
    clear he
    go_wp2
    go_ret2
    exact ⟨by rw [HN.out]; rfl, HB1.out⟩

set_option maxHeartbeats 800000 in
set_option maxRecDepth 100000 in
theorem cunit_any (m : Mod) (s : Sto) (c : Cla) (vs cs v u : Value) (w : World) (hm : MArg w vs cs m) (hv : RArg w v s) (hu : LArg w u c) :
    Calls Tryz.prog 46 #[modV vs cs m, v, u] w fun e w' => ∃ x, e = .returned (.tuple #[x, .int .i64 (cunitA m s c).2]) ∧ RArg w' x (cunitA m s c).1 ∧ Below w.heap.size w w' := by
  have HMA : Hid (∀ w' : World, Below w.heap.size w w' → MArg w' vs cs m) := fun w' h => MArg.below h hm
  have HVA : Hid (∀ w' : World, Below w.heap.size w w' → RArg w' v s) := fun w' h => RArg.below h hv
  have HUA : Hid (∀ w' : World, Below w.heap.size w w' → LArg w' u c) := fun w' h => LArg.below h hu
  obtain ⟨⟨a1, c1, rfl, _, _⟩, ⟨a2, c2, rfl, _, _⟩⟩ := hm
  obtain ⟨a3, c3, rfl, _, _⟩ := hv
  obtain ⟨a4, c4, rfl, _, _⟩ := hu
  obtain ⟨R, hR⟩ : ∃ R, cunitA m s c = R := ⟨_, rfl⟩
  rw [hR]
  obtain ⟨er, her⟩ : ∃ er, cinE m s c = er := ⟨_, rfl⟩
  have HER : Hid (cinE m s c = er) := her
  have HE : Hid (R = if er = 0 then (unitS s c, 0) else ([], er)) := by rw [← hR, ← her]; rfl
  clear hR her
  unfold modV
  go_enter Tryz.func46, Tryz.ntmps46
  go_wp2_with fail
  refine (cin_any m s c (.slice a1 m.vars.length c1) (.slice a2 m.cons.length c2) _ _ _ ?_ ?_ ?_).mono ?_
  · exact HMA.out _ (below_alloc _ _)
  · exact HVA.out _ (below_alloc _ _)
  · exact HUA.out _ (below_alloc _ _)
  rintro e w1 ⟨rfl, hb1⟩
  rw [HER.out]
  have HB1 : Hid (Below w.heap.size w w1) := (below_alloc _ _).trans (hb1.mono (by simp))
  clear hb1
  by_cases he : er = 0
  · subst he
    obtain ⟨o1, o2⟩ := cinE_ok m s c HER.out
    obtain ⟨o3, o4⟩ := (checkL_one m s).1 o1
    obtain ⟨hn6, hr6⟩ := rows_short m s o3 o4
    have HR6 : Hid (∀ r ∈ s, r.length ≤ 6) := hr6
    have HCI : Hid (ClaIn s c) := by intro l hl; rw [((checkV_ok _ _).1 o4).1]; exact claE_fine _ _ o2 l hl
    obtain ⟨hn7, hr7⟩ := rows_short m (unitS s c) o3 (checkV_unit m.vars s c o4)
    have HR7 : Hid (∀ r ∈ unitS s c, r.length ≤ 6) := hr7
    have HN : Hid (R = (unitS s c, 0)) := by rw [HE.out, if_pos rfl]; rfl
    clear o1 o2 o3 o4 hr6 hr7
    go_wp2_with fail
    refine (unit_any s c _ _ _ (HVA.out _ HB1.out) (HUA.out _ HB1.out) HCI.out hn6 HR6.out).mono ?_
    rintro e w2 ⟨x, rfl, hx, hb2⟩
    obtain ⟨M, hM⟩ : ∃ M, unitS s c = M := ⟨_, rfl⟩
    rw [hM] at hx HN hn7 HR7
    have HX : Hid (RArg w2 x M) := hx
    obtain ⟨ax, cx, rfl, _, _⟩ := hx
    have HB2 : Hid (Below w.heap.size w w2) := HB1.out.trans (hb2.mono HB1.out.size)
    clear hb2 hM
    go_wp2_with fail
    refine (all_any M _ _ HX.out hn7 HR7.out).mono ?_
    rintro e w3 ⟨y, rfl, hy, hb3⟩
    have HY : Hid (RArg w3 y M) := hy
    obtain ⟨ay, cy, rfl, _, _⟩ := hy
    have hB3 : Below w.heap.size w w3 := HB2.out.trans (hb3.mono HB2.out.size)
    clear hb3
    go_wp2
    go_ret2
    rw [HN.out]
    exact ⟨_, rfl, HY.out, hB3⟩
  · have HN : Hid (R = ([], er)) := by rw [HE.out, if_neg he]; rfl
    have he2 : (er != 0) = true := by simpa using he
    clear he
    go_wp2
    go_ret2
    rw [HN.out]
    exact ⟨_, rfl, ⟨_, _, rfl, ⟨Nat.le_refl _, Nat.zero_le _⟩, fun i r h => by simp at h⟩, HB1.out⟩

set_option maxHeartbeats 400000 in
set_option maxRecDepth 100000 in
theorem denied_any (c : Cla) (k : Nat) (z : Int) (u : Value) (bc : Nat) (w : World) (hu : LArg w u c) (h1 : w.cell? ⟨bc, 0, none⟩ = some u) :
    Calls Tryz.prog 86 #[.int .i64 (k : Int), .int .i64 z, .pointer (some ⟨bc, 0, none⟩)] w fun e w' => e = .returned (.bool (!oneB c k z)) ∧ Below w.heap.size w w' := by
  have HU : Hid (LArg w u c) := hu
  obtain ⟨a, cc, rfl, _, _⟩ := hu
  go_enter Tryz.func86, Tryz.ntmps86
  go_wp2_with fail
  refine (one_of c k z _ _ HU.out).mono ?_
  rintro e w1 ⟨rfl, hb1⟩
  go_wp2
  go_ret
  exact ⟨rfl, hb1⟩
theorem enters_denied (args : Array Value) (w' : World) : Sem.run Tryz.prog (callFunc 86 args) w' = .ok (.enter 86 args) w' := by
  simp [callFunc, go_sem, Tryz.func86, Tryz.f86]

set_option maxHeartbeats 800000 in
set_option maxRecDepth 100000 in
theorem cdeny_any (m : Mod) (s : Sto) (c : Cla) (vs cs v u : Value) (w : World) (hm : MArg w vs cs m) (hv : RArg w v s) (hu : LArg w u c) :
    Calls Tryz.prog 47 #[modV vs cs m, v, u] w fun e w' => ∃ x, e = .returned (.tuple #[x, .int .i64 (cdenyA m s c).2]) ∧ RArg w' x (cdenyA m s c).1 ∧ Below w.heap.size w w' := by
  have HMA : Hid (∀ w' : World, Below w.heap.size w w' → MArg w' vs cs m) := fun w' h => MArg.below h hm
  have HVA : Hid (∀ w' : World, Below w.heap.size w w' → RArg w' v s) := fun w' h => RArg.below h hv
  have HUA : Hid (∀ w' : World, Below w.heap.size w w' → LArg w' u c) := fun w' h => LArg.below h hu
  obtain ⟨⟨a1, c1, rfl, _, _⟩, ⟨a2, c2, rfl, _, _⟩⟩ := hm
  obtain ⟨a3, c3, rfl, _, _⟩ := hv
  obtain ⟨a4, c4, rfl, _, _⟩ := hu
  obtain ⟨R, hR⟩ : ∃ R, cdenyA m s c = R := ⟨_, rfl⟩
  rw [hR]
  obtain ⟨er, her⟩ : ∃ er, cinE m s c = er := ⟨_, rfl⟩
  have HER : Hid (cinE m s c = er) := her
  have HE : Hid (R = if er = 0 then (denyS s c, 0) else ([], er)) := by rw [← hR, ← her]; rfl
  clear hR her
  unfold modV
  go_enter Tryz.func47, Tryz.ntmps47
  go_wp2_with fail
  refine (cin_any m s c (.slice a1 m.vars.length c1) (.slice a2 m.cons.length c2) _ _ _ ?_ ?_ ?_).mono ?_
  · exact HMA.out _ (nb2 _ _ _)
  · exact HVA.out _ (nb2 _ _ _)
  · exact HUA.out _ (nb2 _ _ _)
  rintro e w1 ⟨rfl, hb1⟩
  rw [HER.out]
  have d1 : w1.cell? ⟨w.heap.size + 1, 0, none⟩ = some (.slice a4 c.length c4) := (hb1.cell (by simp)).trans (World.cell?_alloc_at _ _ _ 0 (by simp))
  have HB1 : Hid (Below w.heap.size w w1) := (nb2 _ _ _).trans (hb1.mono (by simp; omega))
  have hs1 : w.heap.size + 2 ≤ w1.heap.size := by simpa using hb1.size
  clear hb1
  by_cases he : er = 0
  · subst he
    obtain ⟨o1, o2⟩ := cinE_ok m s c HER.out
    obtain ⟨o3, o4⟩ := (checkL_one m s).1 o1
    obtain ⟨hn6, hr6⟩ := rows_short m s o3 o4
    have HR6 : Hid (∀ r ∈ s, r.length ≤ 6) := hr6
    have HN : Hid (R = (siftS s (fun k z => !oneB c k z), 0)) := by rw [HE.out, if_pos rfl]; rfl
    clear o1 o2 o3 o4 hr6
    go_wp2_with fail
    refine (sift_any 86 _ s (fun k z => !oneB c k z) _ _ (HVA.out _ HB1.out) ⟨enters_denied, ?_⟩ hn6 HR6.out).mono ?_
    · intro k q z w' hk _ hb'
      exact denied_any c k z _ (w.heap.size + 1) w' (HUA.out _ (HB1.out.trans (hb'.mono HB1.out.size))) ((hb'.cell (by simp only; omega)).trans d1)
    rintro e w2 ⟨x, rfl, hx, hb2⟩
    obtain ⟨M, hM⟩ : ∃ M, siftS s (fun k z => !oneB c k z) = M := ⟨_, rfl⟩
    rw [hM] at hx HN
    have HX : Hid (RArg w2 x M) := hx
    obtain ⟨ax, cx, rfl, _, _⟩ := hx
    have hB2 : Below w.heap.size w w2 := HB1.out.trans (hb2.mono HB1.out.size)
    clear hb2 hM
    go_wp2
    go_ret2
    rw [HN.out]
    exact ⟨_, rfl, HX.out, hB2⟩
  · have HN : Hid (R = ([], er)) := by rw [HE.out, if_neg he]; rfl
    have he2 : (er != 0) = true := by simpa using he
    clear he
    go_wp2
    go_ret2
    rw [HN.out]
    exact ⟨_, rfl, ⟨_, _, rfl, ⟨Nat.le_refl _, Nat.zero_le _⟩, fun i r h => by simp at h⟩, HB1.out⟩
end Go.Proofs.YtijohkhpigjbkadGreatDoor
/-
  WALK: all of some clauses hold of values (allClauses of the laws).
-/
namespace Go.Proofs.YtijohkhpigjbkadGreatDoor
open Go.RowKit

def okB (m : Mod) (vals : List Int) (c : Cla) : Bool := decide ((choldsA m c vals).2 = 0) && (choldsA m c vals).1
theorem okB_claB (m : Mod) (vals : List Int) (c : Cla) (h : okB m vals c = true) : claB c vals = true := by
  unfold okB at h
  rw [Bool.and_eq_true, decide_eq_true_eq] at h
  obtain ⟨h1, h2⟩ := h
  unfold choldsA at h1 h2
  by_cases h0 : ccheckA m c = 0
  · rw [if_pos h0] at h1 h2
    by_cases hl : vals.length = m.vars.length
    · rw [if_pos hl] at h2; exact h2
    · rw [if_neg hl] at h2; cases h2
  · rw [if_neg h0] at h2; cases h2

set_option maxHeartbeats 1600000 in
set_option maxRecDepth 100000 in
theorem allcla_any (m : Mod) (l : List Cla) (vals : List Int) (vs cs u v : Value) (w : World) (hm : MArg w vs cs m) (hu : LLArg w u l) (hv : IArg w v vals) :
    Calls Tryz.prog 20 #[modV vs cs m, u, v] w fun e w' => e = .returned (.bool (l.all (okB m vals))) ∧ Below w.heap.size w w' := by
  have HMA : Hid (∀ w' : World, Below w.heap.size w w' → MArg w' vs cs m) := fun w' h => MArg.below h hm
  have HVA : Hid (∀ w' : World, Below w.heap.size w w' → IArg w' v vals) := fun w' h => IArg.below h hv
  obtain ⟨⟨a1, c1, rfl, _, _⟩, ⟨a2, c2, rfl, _, _⟩⟩ := hm
  obtain ⟨a3, c3, rfl, hm3, hr3⟩ := hu
  obtain ⟨a4, c4, rfl, _, _⟩ := hv
  have HU : Hid (∀ (i : Nat) (t : Cla), l[i]? = some t → ∃ b off x, a3 = some ⟨b, off, none⟩ ∧ b < w.heap.size ∧ w.cell? ⟨b, off + i, none⟩ = some x ∧ LArg w x t) := hr3
  obtain ⟨R, hR⟩ : ∃ R, l.all (okB m vals) = R := ⟨_, rfl⟩
  rw [hR]
  have HR : Hid (l.all (okB m vals) = R) := hR
  unfold maxLen at hm3
  obtain ⟨hm31, hm3⟩ := hm3
  obtain ⟨W, hW⟩ : ∃ W : World, W = w.alloc (.cells #[.slice a1 m.vars.length c1, .slice a2 m.cons.length c2, .int .i64 m.goal, .int .i64 m.var] 25) := ⟨_, rfl⟩
  have HW : Hid (W = w.alloc (.cells #[.slice a1 m.vars.length c1, .slice a2 m.cons.length c2, .int .i64 m.goal, .int .i64 m.var] 25)) := hW
  have HBW : Hid (Below w.heap.size w W) := by rw [hW]; exact below_alloc _ _
  have hsW : w.heap.size < W.heap.size := by rw [hW]; simp
  have HC : Hid (∀ w' : World, Below W.heap.size W w' → w'.cell? ⟨w.heap.size, 0, none⟩ = some (.slice a1 m.vars.length c1) ∧ w'.cell? ⟨w.heap.size, 1, none⟩ = some (.slice a2 m.cons.length c2) ∧ w'.cell? ⟨w.heap.size, 2, none⟩ = some (.int .i64 m.goal) ∧ w'.cell? ⟨w.heap.size, 3, none⟩ = some (.int .i64 m.var)) := by
    intro w' h
    refine ⟨?_, ?_, ?_, ?_⟩
    all_goals (refine (h.cell hsW).trans ?_; rw [hW]; simp)
  clear hR hr3 hW
  unfold modV
  go_enter Tryz.func20, Tryz.ntmps20
  go_wp2_with fail
  rw [← HW.out]
  clear HW
  go_loopw [7] (fun i wr => ∃ k : Nat, k ≤ l.length ∧ i = .int .i64 k ∧ Hid ((l.take k).all (okB m vals) = true) ∧ Below W.heap.size W wr) (fun i _ => l.length - (intOf i).toNat)
  case atStart => exact ⟨0, by omega, rfl, rfl, Below.refl _ _⟩
  case round =>
    obtain ⟨k, hk, rfl, hall, hbw⟩ := hrel
    by_cases hlt : k < l.length
    · obtain ⟨t, hz⟩ : ∃ z, l[k]? = some z := ⟨l[k], by simp [hlt]⟩
      obtain ⟨b, off, x, ha, hb, q0, hx⟩ := HU.out k t hz
      have hB0 : Below w.heap.size w wr := HBW.out.trans (hbw.mono (by omega))
      have HX : Hid (∀ w' : World, Below w.heap.size w w' → LArg w' x t) := fun w' h => LArg.below h hx
      obtain ⟨a5, c5, rfl, _, _⟩ := hx
      have e5 := (hB0.cell (p := ⟨b, off + k, none⟩) hb).trans q0
      obtain ⟨e0, e1, e2, e3⟩ := HC.out _ hbw
      have l0 : w.heap.size < wr.heap.size := Nat.lt_of_lt_of_le hsW hbw.size
      have l5 : b < wr.heap.size := Nat.lt_of_lt_of_le hb hB0.size
      subst ha
      have HZ : Hid (l[k]? = some t) := hz
      have HB0 : Hid (Below w.heap.size w wr) := hB0
      have HBWR : Hid (Below W.heap.size W wr) := hbw
      obtain ⟨ok, hok⟩ : ∃ ok, (choldsA m t vals).1 = ok := ⟨_, rfl⟩
      obtain ⟨er, her⟩ : ∃ er, (choldsA m t vals).2 = er := ⟨_, rfl⟩
      have HH : Hid (choldsA m t vals = (ok, er)) := Prod.ext hok her
      have HOB : Hid (okB m vals t = (decide (er = 0) && ok)) := by show _ = _; unfold okB; rw [hok, her]
      have HCL : Hid (∀ Y : World, Below wr.heap.size wr Y → Calls Tryz.prog 21 #[.agg #[.slice a1 m.vars.length c1, .slice a2 m.cons.length c2, .int .i64 m.goal, .int .i64 m.var], .slice a5 t.length c5, .slice a4 vals.length c4] Y fun e w' => e = .returned (.tuple #[.bool ok, .int .i64 er]) ∧ Below Y.heap.size Y w') := by
        intro Y hY
        have hY0 : Below w.heap.size w Y := HB0.out.trans (hY.mono HB0.out.size)
        have h := cholds_any m t vals (.slice a1 m.vars.length c1) (.slice a2 m.cons.length c2) _ _ Y (HMA.out _ hY0) (HX.out _ hY0) (HVA.out _ hY0)
        rw [HH.out] at h
        exact h
      clear hz q0 hB0 hbw hok her hb
      go_wp2_with fail
      go_region_held3 (fun w' => Below wr.heap.size wr w' ∧ w'.cell? ⟨w.heap.size, 0, none⟩ = some (.slice a1 m.vars.length c1) ∧ w'.cell? ⟨w.heap.size, 1, none⟩ = some (.slice a2 m.cons.length c2) ∧ w'.cell? ⟨w.heap.size, 2, none⟩ = some (.int .i64 m.goal) ∧ w'.cell? ⟨w.heap.size, 3, none⟩ = some (.int .i64 m.var) ∧ w'.cell? ⟨b, off + k, none⟩ = some (.slice a5 t.length c5))
        ((refine (fun (hB : Below wr.heap.size wr _) => ⟨hB, (hB.cell (p := ⟨w.heap.size, 0, none⟩) l0).trans e0, (hB.cell (p := ⟨w.heap.size, 1, none⟩) l0).trans e1, (hB.cell (p := ⟨w.heap.size, 2, none⟩) l0).trans e2, (hB.cell (p := ⟨w.heap.size, 3, none⟩) l0).trans e3, (hB.cell (p := ⟨b, off + k, none⟩) l5).trans e5⟩ : Below wr.heap.size wr _ → _) ?_; first | exact (Below.refl _ _).drew | exact hBq))
        (first
          | (go_at_call 21; refine (HCL.out _ (show Below wr.heap.size wr _ ∧ _ ∧ _ ∧ _ ∧ _ ∧ _ by assumption).1).mono ?_; rintro e wq ⟨rfl, hbq⟩; have hBq := held_call (by assumption) hbq))
      have HBQ : Hid (Below W.heap.size W wq) := HBWR.out.trans (hBq.mono HBWR.out.size)
      have HBQ0 : Hid (Below w.heap.size w wq) := HBW.out.trans (HBQ.out.mono (by omega))
      by_cases he : er = 0
      · subst he
        cases ok
        · have HN : Hid (R = false) := by rw [← HR.out]; exact all_hit (okB m vals) l k t HZ.out (by rw [HOB.out]; rfl)
          go_wp2
          go_ret
          exact ⟨ret_bool HN.out.symm, HBQ0.out⟩
        · have HN : Hid ((l.take (k + 1)).all (okB m vals) = true) := all_next _ l k t HZ.out hall.out (by rw [HOB.out]; rfl)
          go_wp2
          go_roundw
          case rel => exact ⟨k + 1, by omega, by go_num, HN, HBQ.out⟩
          case measure => simp [intOf]; omega
      · have HN : Hid (R = false) := by rw [← HR.out]; exact all_hit (okB m vals) l k t HZ.out (by rw [HOB.out, decide_eq_false he]; rfl)
        have he2 : (er != 0) = true := by simpa using he
        clear he
        go_wp2
        go_ret
        exact ⟨ret_bool HN.out.symm, HBQ0.out⟩
    · have HN : Hid (R = true) := by rw [← HR.out]; exact all_end _ l k hlt hall.out
      have hBe : Below w.heap.size w wr := HBW.out.trans (hbw.mono (by omega))
      go_wp2
      go_ret
      exact ⟨ret_bool HN.out.symm, hBe⟩
end Go.Proofs.YtijohkhpigjbkadGreatDoor
/-
  WALK: package model: Holds.
-/
namespace Go.Proofs.YtijohkhpigjbkadGreatDoor
open Go.RowKit

set_option maxHeartbeats 1600000 in
set_option maxRecDepth 100000 in
theorem mholds_any (m : Mod) (con : Int) (vals : List Int) (vs cs v : Value) (w : World) (hm : MArg w vs cs m) (hv : IArg w v vals) :
    Calls Tryz.prog 44 #[modV vs cs m, .int .i64 con, v] w fun e w' => e = .returned (.tuple #[.bool (holdsA m con vals).1, .int .i64 (holdsA m con vals).2]) ∧ Below w.heap.size w w' := by
  have HMA : Hid (∀ w' : World, Below w.heap.size w w' → MArg w' vs cs m) := fun w' h => MArg.below h hm
  have HVA : Hid (∀ w' : World, Below w.heap.size w w' → IArg w' v vals) := fun w' h => IArg.below h hv
  obtain ⟨⟨a1, c1, rfl, _, _⟩, ⟨a2, c2, rfl, hl2, hr2⟩⟩ := hm
  obtain ⟨a3, c3, rfl, hl3, hr3⟩ := hv
  have HC : Hid (∀ (i : Nat) (t : MCon), m.cons[i]? = some t → ∃ b off vv vc vr vl, a2 = some ⟨b, off, none⟩ ∧ b < w.heap.size ∧
    w.cell? ⟨b, off + i * 6, none⟩ = some (.int .i64 t.kind) ∧ w.cell? ⟨b, off + i * 6 + 1, none⟩ = some vv ∧ w.cell? ⟨b, off + i * 6 + 2, none⟩ = some vc ∧
    w.cell? ⟨b, off + i * 6 + 3, none⟩ = some (.int .i64 t.n) ∧ w.cell? ⟨b, off + i * 6 + 4, none⟩ = some vr ∧ w.cell? ⟨b, off + i * 6 + 5, none⟩ = some vl ∧ KArg w vv vc vr vl t) := hr2
  have HV : Hid (∀ (i : Nat) (z : Int), vals[i]? = some z → ∃ b off, a3 = some ⟨b, off, none⟩ ∧ b < w.heap.size ∧ w.cell? ⟨b, off + i, none⟩ = some (.int .i64 z)) := hr3
  unfold maxLen at hl2 hl3
  obtain ⟨hl21, hl2⟩ := hl2
  obtain ⟨hl31, hl3⟩ := hl3
  obtain ⟨R, hR⟩ : ∃ R, holdsA m con vals = R := ⟨_, rfl⟩
  rw [hR]
  obtain ⟨er, her⟩ : ∃ er, conCheck m con = er := ⟨_, rfl⟩
  have HER : Hid (conCheck m con = er) := her
  have HE : Hid (R = if er = 0 then
    (if vals.length = m.vars.length then (if vals.all (fun x => inB x 50) then (holdsC (m.cons.getD con.toNat noCon) vals, 0) else (false, 3)) else (false, 1))
    else (false, er)) := by rw [← hR, ← her]; rfl
  clear hR her hr2 hr3
  unfold modV
  go_enter Tryz.func44, Tryz.ntmps44
  go_wp2_with fail
  refine (check_con m con (.slice a1 m.vars.length c1) (.slice a2 m.cons.length c2) _ ?_).mono ?_
  · exact HMA.out _ (below_alloc _ _)
  rintro e w1 ⟨rfl, hb1⟩
  rw [HER.out]
  have d0 : w1.cell? ⟨w.heap.size, 0, none⟩ = some (.slice a1 m.vars.length c1) := (hb1.cell (by simp)).trans (by simp)
  have d1 : w1.cell? ⟨w.heap.size, 1, none⟩ = some (.slice a2 m.cons.length c2) := (hb1.cell (by simp)).trans (by simp)
  have HB1 : Hid (Below w.heap.size w w1) := (below_alloc _ _).trans (hb1.mono (by simp))
  clear hb1
  by_cases he : er = 0
  · subst he
    obtain ⟨o1, o2, o3⟩ := conCheck_ok m con HER.out
    by_cases hl : vals.length = m.vars.length
    · have g0 : ((vals.length : Int) != (m.vars.length : Int)) = false := by simp [hl]
      have HL : Hid (vals.length = m.vars.length) := hl
      have HE2 : Hid (R = if vals.all (fun x => inB x 50) then (holdsC (m.cons.getD con.toNat noCon) vals, 0) else (false, 3)) := by rw [HE.out, if_pos rfl, if_pos hl]; rfl
      have HO1 : Hid (checkM m = 0) := o1
      clear hl o1
      go_wp2_with fail
      go_loop [25] (fun i => ∃ k : Nat, k ≤ vals.length ∧ i = .int .i64 k ∧ Hid ((vals.take k).all (fun x => inB x 50) = true)) (fun i => vals.length - (intOf i).toNat)
      case atStart => exact ⟨0, by omega, rfl, rfl⟩
      case round =>
        obtain ⟨k, hk, rfl, hall⟩ := hrel
        by_cases hlt : k < vals.length
        · obtain ⟨x, hx⟩ : ∃ x, vals[k]? = some x := ⟨vals[k], by simp [hlt]⟩
          obtain ⟨b, off, rfl, hb, e0⟩ := HV.out k x hx
          have e1 := (HB1.out.cell (p := ⟨b, off + k, none⟩) hb).trans e0
          have HX : Hid (vals[k]? = some x) := hx
          clear hx e0 hb
          cases hq : inB x 50
          · have HN : Hid (R = (false, 3)) := by rw [HE2.out, all_hit (fun x => inB x 50) vals k x HX.out hq]; rfl
            go_wp2_with fail
            refine (within_any _ 50 (by omega) (by omega) _).mono ?_
            rintro e w1 ⟨rfl, rfl⟩
            rw [hq]
            clear hq
            go_wp2
            go_ret2
            exact ⟨by rw [HN.out]; rfl, HB1.out⟩
          · have HN : Hid ((vals.take (k + 1)).all (fun x => inB x 50) = true) := all_next (fun x => inB x 50) vals k x HX.out hall.out hq
            go_wp2_with fail
            refine (within_any _ 50 (by omega) (by omega) _).mono ?_
            rintro e w1 ⟨rfl, rfl⟩
            rw [hq]
            clear hq
            go_wp2
            go_round
            case rel => exact ⟨k + 1, by omega, by go_num, HN⟩
            case measure => simp [intOf]; omega
        · have HA : Hid (vals.all (fun x => inB x 50) = true) := all_end _ vals k hlt hall.out
          obtain ⟨j, rfl⟩ : ∃ j : Nat, con = (j : Int) := ⟨con.toNat, by omega⟩
          have hjl : j < m.cons.length := by omega
          obtain ⟨c, hc⟩ : ∃ c, m.cons[j]? = some c := ⟨m.cons[j], by simp [hjl]⟩
          have HN : Hid (R = (holdsC c vals, 0)) := by
            rw [HE2.out, HA.out, if_pos rfl, Int.toNat_natCast, List.getD_eq_getElem?_getD, hc]; rfl
          obtain ⟨b, off, vv, vc, vr, vl, ha, hb, f0, f1, f2, f3, f4, f5, hka⟩ := HC.out j c hc
          subst ha
          have e0 := (HB1.out.cell (p := ⟨b, off + j * 6, none⟩) hb).trans f0
          have e1 := (HB1.out.cell (p := ⟨b, off + j * 6 + 1, none⟩) hb).trans f1
          have e2 := (HB1.out.cell (p := ⟨b, off + j * 6 + 2, none⟩) hb).trans f2
          have e3 := (HB1.out.cell (p := ⟨b, off + j * 6 + 3, none⟩) hb).trans f3
          have e4 := (HB1.out.cell (p := ⟨b, off + j * 6 + 4, none⟩) hb).trans f4
          have e5 := (HB1.out.cell (p := ⟨b, off + j * 6 + 5, none⟩) hb).trans f5
          have HK : Hid (KArg w1 vv vc vr vl c) := KArg.below HB1.out hka
          have HCE : Hid (conE vals.length c = 0) := by rw [HL.out]; exact con_ok m HO1.out j c hc
          have HBD : Hid (∀ x ∈ vals, -50 ≤ x ∧ x ≤ 50) := fun x hx => by
            have := List.all_eq_true.1 HA.out x hx
            simpa [inB] using this
          obtain ⟨⟨q1, r1, rfl, _, _⟩, ⟨q2, r2, rfl, _, _⟩, ⟨q3, r3, rfl, _, _⟩, ⟨q4, r4, rfl, _, _⟩⟩ := hka
          clear hc f0 f1 f2 f3 f4 f5 hb
          go_wp2_with fail
          refine (holds_any c vals _ _ _ _ _ _ HK.out (HVA.out _ HB1.out) HCE.out HBD.out).mono ?_
          rintro e w2 ⟨rfl, hb2⟩
          have hb3 : Below w.heap.size w w2 := HB1.out.trans (hb2.mono HB1.out.size)
          clear hb2
          go_wp2
          go_ret2
          exact ⟨by rw [HN.out]; rfl, hb3⟩
    · have g0 : ((vals.length : Int) != (m.vars.length : Int)) = true := by simp; omega
      have HN : Hid (R = (false, 1)) := by rw [HE.out, if_pos rfl, if_neg hl]; rfl
      clear hl
      go_wp2
      go_ret2
      exact ⟨by rw [HN.out]; rfl, HB1.out⟩
  · have HN : Hid (R = (false, er)) := by rw [HE.out, if_neg he]; rfl
    have he2 : (er != 0) = true := by simpa using he
    clear he
    go_wp2
    go_ret2
    exact ⟨by rw [HN.out]; rfl, HB1.out⟩
end Go.Proofs.YtijohkhpigjbkadGreatDoor
/-
  WALK: package model: All.
-/
namespace Go.Proofs.YtijohkhpigjbkadGreatDoor
open Go.RowKit

set_option maxHeartbeats 1600000 in
set_option maxRecDepth 100000 in
theorem mall_any (m : Mod) (vals : List Int) (vs cs v : Value) (w : World) (hm : MArg w vs cs m) (hv : IArg w v vals) :
    Calls Tryz.prog 19 #[modV vs cs m, v] w fun e w' => e = .returned (.tuple #[.bool (allA m vals).1, .int .i64 (allA m vals).2]) ∧ Below w.heap.size w w' := by
  have HMA : Hid (∀ w' : World, Below w.heap.size w w' → MArg w' vs cs m) := fun w' h => MArg.below h hm
  have HVA : Hid (∀ w' : World, Below w.heap.size w w' → IArg w' v vals) := fun w' h => IArg.below h hv
  obtain ⟨⟨a1, c1, rfl, hl1, hr1⟩, ⟨a2, c2, rfl, hl2, hr2⟩⟩ := hm
  obtain ⟨a3, c3, rfl, hl3, hr3⟩ := hv
  have HV1 : Hid (∀ (i : Nat) (t : MVar), m.vars[i]? = some t → t.name.size ≤ maxLen ∧ ∃ b off, a1 = some ⟨b, off, none⟩ ∧ b < w.heap.size ∧
    w.cell? ⟨b, off + i * 3, none⟩ = some (.string t.name) ∧ w.cell? ⟨b, off + i * 3 + 1, none⟩ = some (.int .i64 t.lo) ∧ w.cell? ⟨b, off + i * 3 + 2, none⟩ = some (.int .i64 t.hi)) := hr1
  have HC : Hid (∀ (i : Nat) (t : MCon), m.cons[i]? = some t → ∃ b off vv vc vr vl, a2 = some ⟨b, off, none⟩ ∧ b < w.heap.size ∧
    w.cell? ⟨b, off + i * 6, none⟩ = some (.int .i64 t.kind) ∧ w.cell? ⟨b, off + i * 6 + 1, none⟩ = some vv ∧ w.cell? ⟨b, off + i * 6 + 2, none⟩ = some vc ∧
    w.cell? ⟨b, off + i * 6 + 3, none⟩ = some (.int .i64 t.n) ∧ w.cell? ⟨b, off + i * 6 + 4, none⟩ = some vr ∧ w.cell? ⟨b, off + i * 6 + 5, none⟩ = some vl ∧ KArg w vv vc vr vl t) := hr2
  have HV : Hid (∀ (i : Nat) (z : Int), vals[i]? = some z → ∃ b off, a3 = some ⟨b, off, none⟩ ∧ b < w.heap.size ∧ w.cell? ⟨b, off + i, none⟩ = some (.int .i64 z)) := hr3
  unfold maxLen at hl1 hl2 hl3
  obtain ⟨hl11, hl1⟩ := hl1
  obtain ⟨hl21, hl2⟩ := hl2
  obtain ⟨hl31, hl3⟩ := hl3
  obtain ⟨R, hR⟩ : ∃ R, allA m vals = R := ⟨_, rfl⟩
  rw [hR]
  obtain ⟨er, her⟩ : ∃ er, checkM m = er := ⟨_, rfl⟩
  have HER : Hid (checkM m = er) := her
  have HE : Hid (R = if er = 0 then
    (if vals.length = m.vars.length then ((m.vars.zip vals).all (fun p => insideV p.1 p.2) && m.cons.all (fun c => holdsC c vals), 0) else (false, 1))
    else (false, er)) := by rw [← hR, ← her]; rfl
  clear hR her hr1 hr2 hr3
  unfold modV
  go_enter Tryz.func19, Tryz.ntmps19
  go_wp2_with fail
  refine (check_model m (.slice a1 m.vars.length c1) (.slice a2 m.cons.length c2) _ ?_).mono ?_
  · exact HMA.out _ (below_alloc _ _)
  rintro e w1 ⟨rfl, hb1⟩
  rw [HER.out]
  have d0 : w1.cell? ⟨w.heap.size, 0, none⟩ = some (.slice a1 m.vars.length c1) := (hb1.cell (by simp)).trans (by simp)
  have d1 : w1.cell? ⟨w.heap.size, 1, none⟩ = some (.slice a2 m.cons.length c2) := (hb1.cell (by simp)).trans (by simp)
  have HD1 : Hid (w1.cell? ⟨w.heap.size, 1, none⟩ = some (.slice a2 m.cons.length c2)) := d1
  have hs1 : w.heap.size + 1 ≤ w1.heap.size := by simpa using hb1.size
  have HB1 : Hid (Below w.heap.size w w1) := (below_alloc _ _).trans (hb1.mono (by simp))
  clear hb1
  by_cases he : er = 0
  · subst he
    by_cases hl : vals.length = m.vars.length
    · have g0 : ((vals.length : Int) != (m.vars.length : Int)) = false := by simp [hl]
      have HL : Hid (vals.length = m.vars.length) := hl
      have HE2 : Hid (R = ((m.vars.zip vals).all (fun p => insideV p.1 p.2) && m.cons.all (fun c => holdsC c vals), 0)) := by rw [HE.out, if_pos rfl, if_pos hl]; rfl
      clear hl
      go_wp2_with fail
      go_loopw [25] (fun i wr => ∃ k : Nat, k ≤ m.vars.length ∧ i = .int .i64 k ∧ Hid (((m.vars.zip vals).take k).all (fun p => insideV p.1 p.2) = true) ∧ Below w1.heap.size w1 wr) (fun i _ => m.vars.length - (intOf i).toNat)
      case atStart => exact ⟨0, by omega, rfl, rfl, Below.refl _ _⟩
      case round =>
        obtain ⟨k, hk, rfl, hall, hbw⟩ := hrel
        have HBW : Hid (Below w.heap.size w wr) := HB1.out.trans (hbw.mono (by omega))
        have HBW1 : Hid (Below w1.heap.size w1 wr) := hbw
        by_cases hlt : k < m.vars.length
        · have hlt' : k < vals.length := by rw [HL.out]; exact hlt
          obtain ⟨x, hx⟩ : ∃ x, vals[k]? = some x := ⟨vals[k], by simp [hlt']⟩
          obtain ⟨t, ht⟩ : ∃ t, m.vars[k]? = some t := ⟨m.vars[k], by simp [hlt]⟩
          have HG : Hid ((m.vars.zip vals)[k]? = some (t, x)) := by show _ = _; rw [List.getElem?_zip_eq_some]; exact ⟨ht, hx⟩
          obtain ⟨b, off, rfl, hb, e0⟩ := HV.out k x hx
          obtain ⟨_, b', off', rfl, hb', f0, f1, f2⟩ := HV1.out k t ht
          have e1 := (HBW.out.cell (p := ⟨b, off + k, none⟩) hb).trans e0
          have k0 := (HBW.out.cell (p := ⟨b', off' + k * 3, none⟩) hb').trans f0
          have k1 := (HBW.out.cell (p := ⟨b', off' + k * 3 + 1, none⟩) hb').trans f1
          have k2 := (HBW.out.cell (p := ⟨b', off' + k * 3 + 2, none⟩) hb').trans f2
          have hbr : b < wr.heap.size := Nat.lt_of_lt_of_le hb HBW.out.size
          clear hx ht e0 f0 f1 f2 hb hb' hbw
          by_cases q1 : x < t.lo
          · have HN : Hid (R = (false, 0)) := by
              have := all_hit (fun p : MVar × Int => insideV p.1 p.2) (m.vars.zip vals) k (t, x) HG.out (by simp [insideV, q1])
              rw [HE2.out, this]; rfl
            have q2 : decide (x < t.lo) = true := decide_eq_true q1
            go_wp2
            go_quiet (fail)
            go_wp2
            go_ret2
            exact ⟨by rw [HN.out]; rfl, below_drewN (HBW.out.trans ((below_alloc _ _).mono HBW.out.size)) _⟩
          · have q2 : decide (x < t.lo) = false := decide_eq_false q1
            by_cases q3 : t.hi < x
            · have HN : Hid (R = (false, 0)) := by
                have := all_hit (fun p : MVar × Int => insideV p.1 p.2) (m.vars.zip vals) k (t, x) HG.out (by simp [insideV, q3])
                rw [HE2.out, this]; rfl
              clear q1
              go_wp2
              go_quiet (fail)
              go_wp2
              go_ret2
              exact ⟨by rw [HN.out]; rfl, below_drewN (HBW.out.trans ((below_alloc _ _).mono HBW.out.size)) _⟩
            · have HN : Hid (((m.vars.zip vals).take (k + 1)).all (fun p => insideV p.1 p.2) = true) := all_next (fun p : MVar × Int => insideV p.1 p.2) (m.vars.zip vals) k (t, x) HG.out hall.out (by simp [insideV]; omega)
              have q4 : decide (t.hi < x) = false := decide_eq_false q3
              clear q1 q3
              go_wp2
              go_quiet (fail)
              go_wp2
              go_roundw
              case rel => exact ⟨k + 1, by omega, by go_num, HN, below_drewN (HBW1.out.alloc HBW1.out.size _) _⟩
              case measure => simp [intOf]; omega
        · have HA : Hid ((m.vars.zip vals).all (fun p => insideV p.1 p.2) = true) := all_end _ _ k (by rw [List.length_zip, HL.out]; omega) hall.out
          have HE3 : Hid (R = (m.cons.all (fun c => holdsC c vals), 0)) := by rw [HE2.out, HA.out, Bool.true_and]; rfl
          have HBD : Hid (∀ x ∈ vals, -50 ≤ x ∧ x ≤ 50) := by
            intro x hx
            obtain ⟨i, hi⟩ := List.mem_iff_getElem?.1 hx
            have hil : i < m.vars.length := by rw [← HL.out]; exact (List.getElem?_eq_some_iff.1 hi).1
            have ht : m.vars[i]? = some m.vars[i] := by simp [hil]
            have hvo := var_ok m HER.out i _ ht
            have := List.all_eq_true.1 HA.out (m.vars[i], x) (List.mem_of_getElem? (i := i) (by rw [List.getElem?_zip_eq_some]; exact ⟨ht, hi⟩))
            simp [insideV] at this
            omega
          have e1 : wr.cell? ⟨w.heap.size, 1, none⟩ = some (.slice a2 m.cons.length c2) := (hbw.cell (p := ⟨w.heap.size, 1, none⟩) (by simp only; omega)).trans d1
          obtain ⟨wo, rfl⟩ : ∃ wo : World, wo = wr := ⟨_, rfl⟩
          go_wp2
          clear hk hall hbw hlt e1
          go_loopw [50] (fun i wr => ∃ k : Nat, k ≤ m.cons.length ∧ i = .int .i64 k ∧ Hid ((m.cons.take k).all (fun c => holdsC c vals) = true) ∧ Below w.heap.size w wr) (fun i _ => m.cons.length - (intOf i).toNat)
          case atStart => exact ⟨0, by omega, rfl, rfl, HBW.out⟩
          case round =>
            obtain ⟨j, hj, rfl, hall, hbw⟩ := hrel
            have HBR : Hid (Below w.heap.size w wr) := hbw
            clear hbw
            by_cases hlt : j < m.cons.length
            · obtain ⟨c, hc⟩ : ∃ c, m.cons[j]? = some c := ⟨m.cons[j], by simp [hlt]⟩
              have HCC : Hid (m.cons[j]? = some c) := hc
              obtain ⟨b, off, vv, vc, vr, vl, ha, hb, f0, f1, f2, f3, f4, f5, hka⟩ := HC.out j c hc
              subst ha
              have e0 := (HBR.out.cell (p := ⟨b, off + j * 6, none⟩) hb).trans f0
              have e1 := (HBR.out.cell (p := ⟨b, off + j * 6 + 1, none⟩) hb).trans f1
              have e2 := (HBR.out.cell (p := ⟨b, off + j * 6 + 2, none⟩) hb).trans f2
              have e3 := (HBR.out.cell (p := ⟨b, off + j * 6 + 3, none⟩) hb).trans f3
              have e4 := (HBR.out.cell (p := ⟨b, off + j * 6 + 4, none⟩) hb).trans f4
              have e5 := (HBR.out.cell (p := ⟨b, off + j * 6 + 5, none⟩) hb).trans f5
              have HK : Hid (KArg wr vv vc vr vl c) := KArg.below HBR.out hka
              have HCE : Hid (conE vals.length c = 0) := by rw [HL.out]; exact con_ok m HER.out j c hc
              obtain ⟨⟨q1, r1, rfl, _, _⟩, ⟨q2, r2, rfl, _, _⟩, ⟨q3, r3, rfl, _, _⟩, ⟨q4, r4, rfl, _, _⟩⟩ := hka
              clear hc f0 f1 f2 f3 f4 f5 hb
              cases hq : holdsC c vals
              · have HN : Hid (R = (false, 0)) := by rw [HE3.out, all_hit (fun c => holdsC c vals) m.cons j c HCC.out hq]; rfl
                go_wp2_with fail
                refine (holds_any c vals _ _ _ _ _ _ (KArg.below (below_alloc _ _) HK.out) (HVA.out _ (HBR.out.trans ((below_alloc _ _).mono HBR.out.size))) HCE.out HBD.out).mono ?_
                rintro e w2 ⟨rfl, hb2⟩
                rw [hq]
                have hb3 : Below w.heap.size w w2 := (HBR.out.trans ((below_alloc _ _).mono HBR.out.size)).trans (hb2.mono (by have := HBR.out.size; simp; omega))
                clear hb2 hq
                go_wp2
                go_ret2
                exact ⟨by rw [HN.out]; rfl, hb3⟩
              · have HN : Hid ((m.cons.take (j + 1)).all (fun c => holdsC c vals) = true) := all_next (fun c => holdsC c vals) m.cons j c HCC.out hall.out hq
                go_wp2_with fail
                refine (holds_any c vals _ _ _ _ _ _ (KArg.below (below_alloc _ _) HK.out) (HVA.out _ (HBR.out.trans ((below_alloc _ _).mono HBR.out.size))) HCE.out HBD.out).mono ?_
                rintro e w2 ⟨rfl, hb2⟩
                rw [hq]
                have hb3 : Below w.heap.size w w2 := (HBR.out.trans ((below_alloc _ _).mono HBR.out.size)).trans (hb2.mono (by have := HBR.out.size; simp; omega))
                clear hb2 hq
                go_wp2
                go_roundw
                case rel => exact ⟨j + 1, by omega, by go_num, HN, hb3⟩
                case measure => simp [intOf]; omega
            · have HN : Hid (R = (true, 0)) := by rw [HE3.out, all_end _ m.cons j hlt hall.out]; rfl
              go_wp2
              go_ret2
              exact ⟨by rw [HN.out]; rfl, HBR.out⟩
    · have g0 : ((vals.length : Int) != (m.vars.length : Int)) = true := by simp; omega
      have HN : Hid (R = (false, 1)) := by rw [HE.out, if_pos rfl, if_neg hl]; rfl
      clear hl
      go_wp2
      go_ret2
      exact ⟨by rw [HN.out]; rfl, HB1.out⟩
  · have HN : Hid (R = (false, er)) := by rw [HE.out, if_neg he]; rfl
    have he2 : (er != 0) = true := by simpa using he
    clear he
    go_wp2
    go_ret2
    exact ⟨by rw [HN.out]; rfl, HB1.out⟩
end Go.Proofs.YtijohkhpigjbkadGreatDoor
/-
  WALK: the reference's SameInts.
-/
namespace Go.Proofs.YtijohkhpigjbkadGreatDoor
open Go.RowKit

theorem take_same {α : Type} (a b : List α) (m : Nat) (x : α) (h : a.take m = b.take m) (ha : a[m]? = some x) (hb : b[m]? = some x) : a.take (m + 1) = b.take (m + 1) := by
  rw [List.take_add_one, List.take_add_one, h, ha, hb]
theorem same_end {α : Type} (a b : List α) (m : Nat) (h : a.take m = b.take m) (ha : ¬ m < a.length) (hl : a.length = b.length) : a = b := by
  rwa [List.take_of_length_le (by omega), List.take_of_length_le (by omega)] at h
theorem not_same {α : Type} (a b : List α) (m : Nat) (x y : α) (ha : a[m]? = some x) (hb : b[m]? = some y) (h : x ≠ y) : a ≠ b := by
  intro e; subst e; rw [ha] at hb; cases hb; exact h rfl

set_option maxHeartbeats 800000 in
set_option maxRecDepth 100000 in
theorem sameints_any (l k : List Int) (v u : Value) (w : World) (hv : IArg w v l) (hu : IArg w u k) :
    Calls Tryz.prog 45 #[v, u] w fun e w' => e = .returned (.bool (decide (l = k))) ∧ ∃ n, w' = w.drewN n := by
  obtain ⟨a, c, rfl, hm, hr⟩ := hv
  obtain ⟨a', c', rfl, hm', hr'⟩ := hu
  have HV : Hid (∀ (i : Nat) (z : Int), l[i]? = some z → ∃ b off, a = some ⟨b, off, none⟩ ∧ b < w.heap.size ∧ w.cell? ⟨b, off + i, none⟩ = some (.int .i64 z)) := hr
  have HV' : Hid (∀ (i : Nat) (z : Int), k[i]? = some z → ∃ b off, a' = some ⟨b, off, none⟩ ∧ b < w.heap.size ∧ w.cell? ⟨b, off + i, none⟩ = some (.int .i64 z)) := hr'
  obtain ⟨R, hR⟩ : ∃ R, decide (l = k) = R := ⟨_, rfl⟩
  rw [hR]
  have HR : Hid (decide (l = k) = R) := hR
  unfold maxLen at hm hm'
  obtain ⟨hm1, hm⟩ := hm
  obtain ⟨hm1', hm'⟩ := hm'
  clear hr hr' hR
  by_cases hl : l.length = k.length
  · have HL : Hid (l.length = k.length) := hl
    have g0 : ((l.length : Int) != (k.length : Int)) = false := by simp [hl]
    clear hl
    go_enter Tryz.func45, Tryz.ntmps45
    go_wp2_with fail
    go_loopw [5] (fun i wr => ∃ m : Nat, m ≤ l.length ∧ i = .int .i64 m ∧ Hid (l.take m = k.take m) ∧ ∃ n, wr = w.drewN n) (fun i _ => l.length - (intOf i).toNat)
    case atStart => exact ⟨0, by omega, rfl, rfl, 0, rfl⟩
    case round =>
      obtain ⟨m, hml, rfl, hall, nq, rfl⟩ := hrel
      by_cases hlt : m < l.length
      · have hlt' : m < k.length := by rw [← HL.out]; exact hlt
        obtain ⟨x, hx⟩ : ∃ x, l[m]? = some x := ⟨l[m], by simp [hlt]⟩
        obtain ⟨y, hy⟩ : ∃ y, k[m]? = some y := ⟨k[m], by simp [hlt']⟩
        obtain ⟨b, off, ha, hb, hc⟩ := HV.out m x hx
        obtain ⟨b', off', ha', hb', hd⟩ := HV'.out m y hy
        have HX : Hid (l[m]? = some x) := hx
        have HY : Hid (k[m]? = some y) := hy
        subst ha; subst ha'
        clear hx hy
        by_cases hq : x = y
        · subst hq
          have HN : Hid (l.take (m + 1) = k.take (m + 1)) := take_same l k m x hall.out HX.out HY.out
          go_wp2
          go_quiet (fail)
          go_wp2
          go_roundw
          case rel => exact ⟨m + 1, by omega, by go_num, HN, _, rfl⟩
          case measure => simp [intOf]; omega
        · have HN : Hid (R = false) := by rw [← HR.out]; exact decide_eq_false (not_same l k m x y HX.out HY.out hq)
          have hq2 : (x != y) = true := by simpa using hq
          clear hq
          go_wp2
          go_quiet (fail)
          go_wp2
          go_ret
          exact ⟨ret_bool HN.out.symm, _, drewN_drewN _ _ _⟩
      · have HN : Hid (R = true) := by rw [← HR.out]; exact decide_eq_true (same_end l k m hall.out hlt HL.out)
        go_wp2
        go_ret
        exact ⟨ret_bool HN.out.symm, _, rfl⟩
  · have HN : Hid (R = false) := by rw [← HR.out]; exact decide_eq_false (fun h => hl (by rw [h]))
    have g0 : ((l.length : Int) != (k.length : Int)) = true := by simp; omega
    clear hl
    go_enter Tryz.func45, Tryz.ntmps45
    go_wp2
    go_ret
    exact ⟨ret_bool HN.out.symm, 0, rfl⟩

end Go.Proofs.YtijohkhpigjbkadGreatDoor
