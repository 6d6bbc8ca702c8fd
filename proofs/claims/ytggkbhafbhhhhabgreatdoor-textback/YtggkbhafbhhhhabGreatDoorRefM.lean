/-
  WALKS: the reference's SameLists, SameClause, sameCon, SameModel, where both are the same.
-/
import Derived.Test.YtggkbhafbhhhhabGreatDoorTxtV
import Derived.Test.YtggkbhafbhhhhabGreatDoorRefI
import Derived.Deep.RegionHeld3
namespace Go.Proofs.YtggkbhafbhhhhabGreatDoor
open Go.RowKit

theorem RArg.at {w : World} {a : Option Addr} {n c : Nat} {l : List (List Int)} (h : RArg w (.slice a n c) l) (i : Nat) (r : List Int) (hr : l[i]? = some r) : ∃ b off x, a = some ⟨b, off, none⟩ ∧ b < w.heap.size ∧ w.cell? ⟨b, off + i, none⟩ = some x ∧ IArg w x r := by
  obtain ⟨a', c', hv, _, hh⟩ := h
  cases hv
  exact hh i r hr
theorem LArg.nth {w : World} {a : Option Addr} {n c : Nat} {l : List MLit} (h : LArg w (.slice a n c) l) (i : Nat) (t : MLit) (hr : l[i]? = some t) : ∃ b off, a = some ⟨b, off, none⟩ ∧ b < w.heap.size ∧
    w.cell? ⟨b, off + i * 3, none⟩ = some (.int .i64 t.var) ∧ w.cell? ⟨b, off + i * 3 + 1, none⟩ = some (.int .i64 t.op) ∧ w.cell? ⟨b, off + i * 3 + 2, none⟩ = some (.int .i64 t.n) := by
  obtain ⟨a', c', hv, _, hh⟩ := h
  cases hv
  exact hh i t hr
theorem VArg.nth {w : World} {a : Option Addr} {n c : Nat} {l : List MVar} (h : VArg w (.slice a n c) l) (i : Nat) (t : MVar) (hr : l[i]? = some t) : t.name.size ≤ maxLen ∧ ∃ b off, a = some ⟨b, off, none⟩ ∧ b < w.heap.size ∧
    w.cell? ⟨b, off + i * 3, none⟩ = some (.string t.name) ∧ w.cell? ⟨b, off + i * 3 + 1, none⟩ = some (.int .i64 t.lo) ∧ w.cell? ⟨b, off + i * 3 + 2, none⟩ = some (.int .i64 t.hi) := by
  obtain ⟨a', c', hv, _, hh⟩ := h
  cases hv
  exact hh i t hr
theorem CArg.nth {w : World} {a : Option Addr} {n c : Nat} {l : List MCon} (h : CArg w (.slice a n c) l) (i : Nat) (t : MCon) (hr : l[i]? = some t) : ∃ b off vv vc vr vl, a = some ⟨b, off, none⟩ ∧ b < w.heap.size ∧
    w.cell? ⟨b, off + i * 6, none⟩ = some (.int .i64 t.kind) ∧ w.cell? ⟨b, off + i * 6 + 1, none⟩ = some vv ∧ w.cell? ⟨b, off + i * 6 + 2, none⟩ = some vc ∧
    w.cell? ⟨b, off + i * 6 + 3, none⟩ = some (.int .i64 t.n) ∧ w.cell? ⟨b, off + i * 6 + 4, none⟩ = some vr ∧ w.cell? ⟨b, off + i * 6 + 5, none⟩ = some vl ∧ KArg w vv vc vr vl t := by
  obtain ⟨a', c', hv, _, hh⟩ := h
  cases hv
  exact hh i t hr
set_option maxHeartbeats 1600000 in
set_option maxRecDepth 100000 in
theorem samelists_eq (s : List (List Int)) (v u : Value) (w : World) (hv : RArg w v s) (hu : RArg w u s) :
    Calls Tryz.prog 54 #[v, u] w fun e w' => e = .returned (.bool true) ∧ ∃ n, w' = w.drewN n := by
  have HA : Hid (RArg w v s) := hv
  have HA' : Hid (RArg w u s) := hu
  obtain ⟨a, c, rfl, hm, _⟩ := hv
  obtain ⟨a', c', rfl, hm', _⟩ := hu
  unfold maxLen at hm hm'
  obtain ⟨hm1, hm⟩ := hm
  obtain ⟨hm1', hm'⟩ := hm'
  have g0 : ((s.length : Int) != (s.length : Int)) = false := by simp
  go_enter Tryz.func54, Tryz.ntmps54
  go_wp2_with fail
  go_loopw [5] (fun i wr => ∃ m : Nat, m ≤ s.length ∧ i = .int .i64 m ∧ ∃ n, wr = w.drewN n) (fun i _ => s.length - (intOf i).toNat)
  case atStart => exact ⟨0, by omega, rfl, 0, rfl⟩
  case round =>
    obtain ⟨m, hml, rfl, nq, rfl⟩ := hrel
    by_cases hlt : m < s.length
    · obtain ⟨x, hx⟩ : ∃ x, s[m]? = some x := ⟨s[m], by simp [hlt]⟩
      obtain ⟨b, off, vx, rfl, hb, hc, hix⟩ := RArg.at HA.out m x hx
      obtain ⟨b', off', vy, rfl, hb', hd, hiy⟩ := RArg.at HA'.out m x hx
      have HIX : Hid (IArg w vx x) := hix
      have HIY : Hid (IArg w vy x) := hiy
      obtain ⟨a5, c5, rfl, _, _⟩ := hix
      obtain ⟨a6, c6, rfl, _, _⟩ := hiy
      clear hx
      have HS : Hid (∀ p q, Calls Tryz.prog 53 #[.slice a5 x.length c5, .slice a6 x.length c6] (w.drewN (p + q)) fun e w' => e = .returned (.bool true) ∧ ∃ n, w' = w.drewN (p + n)) := by
        intro p q
        refine (sameints_any x x _ _ (w.drewN (p + q)) HIX.out HIY.out).mono ?_
        rintro e w' ⟨rfl, n, rfl⟩
        exact ⟨by simp, q + n, by rw [drewN_drewN, Nat.add_assoc]⟩
      go_wp2
      go_quiet ((go_at_call 53; exact HS.out _ _))
      go_wp2
      go_roundw
      case rel => exact ⟨m + 1, by omega, by go_num, _, rfl⟩
      case measure => simp [intOf]; omega
    · go_wp2
      go_ret
      exact ⟨rfl, _, rfl⟩
set_option maxHeartbeats 1600000 in
set_option maxRecDepth 100000 in
theorem sameclause_eq (s : List MLit) (v u : Value) (w : World) (hv : LArg w v s) (hu : LArg w u s) :
    Calls Tryz.prog 55 #[v, u] w fun e w' => e = .returned (.bool true) ∧ ∃ n, w' = w.drewN n := by
  have HA : Hid (LArg w v s) := hv
  have HA' : Hid (LArg w u s) := hu
  obtain ⟨a, c, rfl, hm, _⟩ := hv
  obtain ⟨a', c', rfl, hm', _⟩ := hu
  unfold maxLen at hm hm'
  obtain ⟨hm1, hm⟩ := hm
  obtain ⟨hm1', hm'⟩ := hm'
  have g0 : ((s.length : Int) != (s.length : Int)) = false := by simp
  go_enter Tryz.func55, Tryz.ntmps55
  go_wp2_with fail
  go_loopw [5] (fun i wr => ∃ m : Nat, m ≤ s.length ∧ i = .int .i64 m ∧ ∃ n, wr = w.drewN n) (fun i _ => s.length - (intOf i).toNat)
  case atStart => exact ⟨0, by omega, rfl, 0, rfl⟩
  case round =>
    obtain ⟨m, hml, rfl, nq, rfl⟩ := hrel
    by_cases hlt : m < s.length
    · obtain ⟨x, hx⟩ : ∃ x, s[m]? = some x := ⟨s[m], by simp [hlt]⟩
      obtain ⟨b, off, rfl, hb, h0, h1, h2⟩ := LArg.nth HA.out m x hx
      obtain ⟨b', off', rfl, hb', h0', h1', h2'⟩ := LArg.nth HA'.out m x hx
      clear hx
      go_wp2
      go_quiet (fail)
      go_wp2
      go_roundw
      case rel => exact ⟨m + 1, by omega, by go_num, _, rfl⟩
      case measure => simp [intOf]; omega
    · go_wp2
      go_ret
      exact ⟨rfl, _, rfl⟩
set_option maxHeartbeats 3200000 in
set_option maxRecDepth 100000 in
theorem samecon_eq (c : MCon) (vv vc vr vl uv uc ur ul : Value) (w : World) (hv : KArg w vv vc vr vl c) (hu : KArg w uv uc ur ul c) :
    Calls Tryz.prog 27 #[conV vv vc vr vl c, conV uv uc ur ul c] w fun e w' => e = .returned (.bool true) ∧ Below w.heap.size w w' := by
  have HA : Hid (KArg w vv vc vr vl c) := hv
  have HB : Hid (KArg w uv uc ur ul c) := hu
  obtain ⟨⟨a1, c1, rfl, _, _⟩, ⟨a2, c2, rfl, _, _⟩, ⟨a3, c3, rfl, _, _⟩, ⟨a4, c4, rfl, _, _⟩⟩ := hv
  obtain ⟨⟨b1, d1, rfl, _, _⟩, ⟨b2, d2, rfl, _, _⟩, ⟨b3, d3, rfl, _, _⟩, ⟨b4, d4, rfl, _, _⟩⟩ := hu
  obtain ⟨W, hW⟩ : ∃ W, W = (w.alloc (.cells #[.int .i64 c.kind, .slice a1 c.vars.length c1, .slice a2 c.consts.length c2, .int .i64 c.n, .slice a3 c.rows.length c3, .slice a4 c.lits.length c4] 54)).alloc (.cells #[.int .i64 c.kind, .slice b1 c.vars.length d1, .slice b2 c.consts.length d2, .int .i64 c.n, .slice b3 c.rows.length d3, .slice b4 c.lits.length d4] 54) := ⟨_, rfl⟩
  have HW : Hid (W = (w.alloc (.cells #[.int .i64 c.kind, .slice a1 c.vars.length c1, .slice a2 c.consts.length c2, .int .i64 c.n, .slice a3 c.rows.length c3, .slice a4 c.lits.length c4] 54)).alloc (.cells #[.int .i64 c.kind, .slice b1 c.vars.length d1, .slice b2 c.consts.length d2, .int .i64 c.n, .slice b3 c.rows.length d3, .slice b4 c.lits.length d4] 54)) := hW
  have HBW : Hid (Below w.heap.size w W) := by show Below _ _ _; rw [hW]; exact (below_alloc _ _).alloc (below_alloc _ _).size _
  have q1 : W.heap[w.heap.size]? = some (.cells #[.int .i64 c.kind, .slice a1 c.vars.length c1, .slice a2 c.consts.length c2, .int .i64 c.n, .slice a3 c.rows.length c3, .slice a4 c.lits.length c4] 54) := by
    rw [hW]
    have h := (below_alloc (w.alloc (.cells #[.int .i64 c.kind, .slice a1 c.vars.length c1, .slice a2 c.consts.length c2, .int .i64 c.n, .slice a3 c.rows.length c3, .slice a4 c.lits.length c4] 54)) (.cells #[.int .i64 c.kind, .slice b1 c.vars.length d1, .slice b2 c.consts.length d2, .int .i64 c.n, .slice b3 c.rows.length d3, .slice b4 c.lits.length d4] 54)).block w.heap.size (by simp)
    rw [h]; exact heap_alloc_new _ _
  have q2 : W.heap[w.heap.size + 1]? = some (.cells #[.int .i64 c.kind, .slice b1 c.vars.length d1, .slice b2 c.consts.length d2, .int .i64 c.n, .slice b3 c.rows.length d3, .slice b4 c.lits.length d4] 54) := by
    rw [hW]
    have h := heap_alloc_new (w.alloc (.cells #[.int .i64 c.kind, .slice a1 c.vars.length c1, .slice a2 c.consts.length c2, .int .i64 c.n, .slice a3 c.rows.length c3, .slice a4 c.lits.length c4] 54)) (.cells #[.int .i64 c.kind, .slice b1 c.vars.length d1, .slice b2 c.consts.length d2, .int .i64 c.n, .slice b3 c.rows.length d3, .slice b4 c.lits.length d4] 54)
    simpa using h
  have HI1 : Hid (∀ n, Calls Tryz.prog 53 #[.slice a1 c.vars.length c1, .slice b1 c.vars.length d1] (W.drewN n) fun e w' => e = .returned (.bool true) ∧ ∃ k, w' = W.drewN k) := fun n => by
    refine (sameints_any c.vars c.vars _ _ (W.drewN n) (IArg.below (below_drewN HBW.out n) HA.out.1) (IArg.below (below_drewN HBW.out n) HB.out.1)).mono ?_
    rintro e w' ⟨rfl, k, rfl⟩
    exact ⟨by simp, n + k, drewN_drewN _ _ _⟩
  have HI2 : Hid (∀ n, Calls Tryz.prog 53 #[.slice a2 c.consts.length c2, .slice b2 c.consts.length d2] (W.drewN n) fun e w' => e = .returned (.bool true) ∧ ∃ k, w' = W.drewN k) := fun n => by
    refine (sameints_any c.consts c.consts _ _ (W.drewN n) (IArg.below (below_drewN HBW.out n) HA.out.2.1) (IArg.below (below_drewN HBW.out n) HB.out.2.1)).mono ?_
    rintro e w' ⟨rfl, k, rfl⟩
    exact ⟨by simp, n + k, drewN_drewN _ _ _⟩
  have HI3 : Hid (∀ n, Calls Tryz.prog 54 #[.slice a3 c.rows.length c3, .slice b3 c.rows.length d3] (W.drewN n) fun e w' => e = .returned (.bool true) ∧ ∃ k, w' = W.drewN k) := fun n => by
    refine (samelists_eq c.rows _ _ (W.drewN n) (RArg.below (below_drewN HBW.out n) HA.out.2.2.1) (RArg.below (below_drewN HBW.out n) HB.out.2.2.1)).mono ?_
    rintro e w' ⟨rfl, k, rfl⟩
    exact ⟨rfl, n + k, drewN_drewN _ _ _⟩
  have HI4 : Hid (∀ n, Calls Tryz.prog 55 #[.slice a4 c.lits.length c4, .slice b4 c.lits.length d4] (W.drewN n) fun e w' => e = .returned (.bool true) ∧ ∃ k, w' = W.drewN k) := fun n => by
    refine (sameclause_eq c.lits _ _ (W.drewN n) (LArg.below (below_drewN HBW.out n) HA.out.2.2.2) (LArg.below (below_drewN HBW.out n) HB.out.2.2.2)).mono ?_
    rintro e w' ⟨rfl, k, rfl⟩
    exact ⟨rfl, n + k, drewN_drewN _ _ _⟩
  have HEN : Hid (∀ n, Below w.heap.size w (W.drewN n)) := fun n => below_drewN HBW.out n
  have k0 : W.cell? ⟨w.heap.size, 0, none⟩ = some (.int .i64 c.kind) := blk9 q1 0 _ rfl
  have k1 : W.cell? ⟨w.heap.size, 1, none⟩ = some (.slice a1 c.vars.length c1) := blk9 q1 1 _ rfl
  have k2 : W.cell? ⟨w.heap.size, 2, none⟩ = some (.slice a2 c.consts.length c2) := blk9 q1 2 _ rfl
  have k3 : W.cell? ⟨w.heap.size, 3, none⟩ = some (.int .i64 c.n) := blk9 q1 3 _ rfl
  have k4 : W.cell? ⟨w.heap.size, 4, none⟩ = some (.slice a3 c.rows.length c3) := blk9 q1 4 _ rfl
  have k5 : W.cell? ⟨w.heap.size, 5, none⟩ = some (.slice a4 c.lits.length c4) := blk9 q1 5 _ rfl
  have m0 : W.cell? ⟨w.heap.size + 1, 0, none⟩ = some (.int .i64 c.kind) := blk9 q2 0 _ rfl
  have m1 : W.cell? ⟨w.heap.size + 1, 1, none⟩ = some (.slice b1 c.vars.length d1) := blk9 q2 1 _ rfl
  have m2 : W.cell? ⟨w.heap.size + 1, 2, none⟩ = some (.slice b2 c.consts.length d2) := blk9 q2 2 _ rfl
  have m3 : W.cell? ⟨w.heap.size + 1, 3, none⟩ = some (.int .i64 c.n) := blk9 q2 3 _ rfl
  have m4 : W.cell? ⟨w.heap.size + 1, 4, none⟩ = some (.slice b3 c.rows.length d3) := blk9 q2 4 _ rfl
  have m5 : W.cell? ⟨w.heap.size + 1, 5, none⟩ = some (.slice b4 c.lits.length d4) := blk9 q2 5 _ rfl
  clear hW q1 q2
  unfold conV
  go_enter Tryz.func27, Tryz.ntmps27
  go_wp2_with fail
  rw [← HW.out]
  refine (HI1.out 0).mono ?_
  rintro e w1 ⟨rfl, n1, rfl⟩
  go_wp2_with fail
  refine (HI2.out n1).mono ?_
  rintro e w2 ⟨rfl, n2, rfl⟩
  go_wp2_with fail
  refine (HI3.out n2).mono ?_
  rintro e w3 ⟨rfl, n3, rfl⟩
  go_wp2_with fail
  refine (HI4.out n3).mono ?_
  rintro e w4 ⟨rfl, n4, rfl⟩
  go_wp2
  go_ret
  exact ⟨rfl, HEN.out _⟩
set_option maxHeartbeats 6400000 in
set_option maxRecDepth 100000 in
theorem samemodel_eq (m : Mod) (vs cs us ts : Value) (w : World) (hv : MArg w vs cs m) (hu : MArg w us ts m) :
    Calls Tryz.prog 9 #[modV vs cs m, modV us ts m] w fun e w' => e = .returned (.bool true) ∧ Below w.heap.size w w' := by
  have HA : Hid (MArg w vs cs m) := hv
  have HB : Hid (MArg w us ts m) := hu
  obtain ⟨⟨a1, c1, rfl, hm1, _⟩, ⟨a2, c2, rfl, hm2, _⟩⟩ := hv
  obtain ⟨⟨b1, d1, rfl, hm3, _⟩, ⟨b2, d2, rfl, hm4, _⟩⟩ := hu
  unfold maxLen at hm1 hm2 hm3 hm4
  obtain ⟨W, hW⟩ : ∃ W, W = (w.alloc (.cells #[.slice a1 m.vars.length c1, .slice a2 m.cons.length c2, .int .i64 m.goal, .int .i64 m.var] 25)).alloc (.cells #[.slice b1 m.vars.length d1, .slice b2 m.cons.length d2, .int .i64 m.goal, .int .i64 m.var] 25) := ⟨_, rfl⟩
  have HW : Hid (W = (w.alloc (.cells #[.slice a1 m.vars.length c1, .slice a2 m.cons.length c2, .int .i64 m.goal, .int .i64 m.var] 25)).alloc (.cells #[.slice b1 m.vars.length d1, .slice b2 m.cons.length d2, .int .i64 m.goal, .int .i64 m.var] 25)) := hW
  have HBW : Hid (Below w.heap.size w W) := by show Below _ _ _; rw [hW]; exact (below_alloc _ _).alloc (below_alloc _ _).size _
  have q1 : W.heap[w.heap.size]? = some (.cells #[.slice a1 m.vars.length c1, .slice a2 m.cons.length c2, .int .i64 m.goal, .int .i64 m.var] 25) := by
    rw [hW]
    have h := (below_alloc (w.alloc (.cells #[.slice a1 m.vars.length c1, .slice a2 m.cons.length c2, .int .i64 m.goal, .int .i64 m.var] 25)) (.cells #[.slice b1 m.vars.length d1, .slice b2 m.cons.length d2, .int .i64 m.goal, .int .i64 m.var] 25)).block w.heap.size (by simp)
    rw [h]; exact heap_alloc_new _ _
  have q2 : W.heap[w.heap.size + 1]? = some (.cells #[.slice b1 m.vars.length d1, .slice b2 m.cons.length d2, .int .i64 m.goal, .int .i64 m.var] 25) := by
    rw [hW]
    have h := heap_alloc_new (w.alloc (.cells #[.slice a1 m.vars.length c1, .slice a2 m.cons.length c2, .int .i64 m.goal, .int .i64 m.var] 25)) (.cells #[.slice b1 m.vars.length d1, .slice b2 m.cons.length d2, .int .i64 m.goal, .int .i64 m.var] 25)
    simpa using h
  have hl1 : w.heap.size < W.heap.size := (Array.getElem?_eq_some_iff.1 q1).1
  have hl2 : w.heap.size + 1 < W.heap.size := (Array.getElem?_eq_some_iff.1 q2).1
  have k0 : W.cell? ⟨w.heap.size, 0, none⟩ = some (.slice a1 m.vars.length c1) := blk9 q1 0 _ rfl
  have k1 : W.cell? ⟨w.heap.size, 1, none⟩ = some (.slice a2 m.cons.length c2) := blk9 q1 1 _ rfl
  have k2 : W.cell? ⟨w.heap.size, 2, none⟩ = some (.int .i64 m.goal) := blk9 q1 2 _ rfl
  have k3 : W.cell? ⟨w.heap.size, 3, none⟩ = some (.int .i64 m.var) := blk9 q1 3 _ rfl
  have m0 : W.cell? ⟨w.heap.size + 1, 0, none⟩ = some (.slice b1 m.vars.length d1) := blk9 q2 0 _ rfl
  have m1 : W.cell? ⟨w.heap.size + 1, 1, none⟩ = some (.slice b2 m.cons.length d2) := blk9 q2 1 _ rfl
  have m2 : W.cell? ⟨w.heap.size + 1, 2, none⟩ = some (.int .i64 m.goal) := blk9 q2 2 _ rfl
  have m3 : W.cell? ⟨w.heap.size + 1, 3, none⟩ = some (.int .i64 m.var) := blk9 q2 3 _ rfl
  have g0 : ((m.vars.length : Int) != (m.vars.length : Int)) = false := by simp
  have g1 : ((m.cons.length : Int) != (m.cons.length : Int)) = false := by simp
  have g2 : (m.goal != m.goal) = false := by simp
  have g3 : (m.var != m.var) = false := by simp
  clear hW q1 q2
  unfold modV
  go_enter Tryz.func9, Tryz.ntmps9
  go_wp2_with fail
  rw [← HW.out]
  clear HW
  go_loopw [5] (fun i wr => ∃ k : Nat, k ≤ m.vars.length ∧ i = .int .i64 k ∧ ∃ n, wr = W.drewN n) (fun i _ => m.vars.length - (intOf i).toNat)
  case atStart => exact ⟨0, by omega, rfl, 0, rfl⟩
  case round =>
    obtain ⟨k, hk, rfl, nq, rfl⟩ := hrel
    by_cases hlt : k < m.vars.length
    · obtain ⟨x, hx⟩ : ∃ x, m.vars[k]? = some x := ⟨m.vars[k], by simp [hlt]⟩
      obtain ⟨_, bb, off, rfl, hb, e0, e1, e2⟩ := VArg.nth (VArg.below HBW.out HA.out.1) k x hx
      obtain ⟨_, bb', off', rfl, hb', f0, f1, f2⟩ := VArg.nth (VArg.below HBW.out HB.out.1) k x hx
      clear hx
      go_wp2
      go_quiet (fail)
      go_wp2
      go_roundw
      case rel => exact ⟨k + 1, by omega, by go_num, _, rfl⟩
      case measure => simp [intOf]; omega
    · go_wp2_with fail
      go_loopw [6] (fun i wr => ∃ k : Nat, k ≤ m.cons.length ∧ i = .int .i64 k ∧ Hid (Below W.heap.size W wr)) (fun i _ => m.cons.length - (intOf i).toNat)
      case atStart => exact ⟨0, by omega, rfl, below_drewN (Below.refl _ _) _⟩
      case round =>
        obtain ⟨k, hk, rfl, hbw⟩ := hrel
        have u1 := (hbw.out.cell (p := ⟨w.heap.size, 1, none⟩) hl1).trans k1
        have v1 := (hbw.out.cell (p := ⟨w.heap.size + 1, 1, none⟩) hl2).trans m1
        have hl1 : w.heap.size < wr.heap.size := Nat.lt_of_lt_of_le hl1 hbw.out.size
        have hl2 : w.heap.size + 1 < wr.heap.size := Nat.lt_of_lt_of_le hl2 hbw.out.size
        by_cases hlt2 : k < m.cons.length
        · obtain ⟨x, hx⟩ : ∃ x, m.cons[k]? = some x := ⟨m.cons[k], by simp [hlt2]⟩
          have HBR : Hid (Below w.heap.size w wr) := HBW.out.trans (hbw.out.mono HBW.out.size)
          obtain ⟨bb, off, vv, vc, vr, vl, rfl, hb, e0, e1, e2, e3, e4, e5, hka⟩ := CArg.nth (CArg.below HBR.out HA.out.2) k x hx
          obtain ⟨bb', off', uv, uc, ur, ul, rfl, hb', f0, f1, f2, f3, f4, f5, hkb⟩ := CArg.nth (CArg.below HBR.out HB.out.2) k x hx
          have HKA : Hid (KArg wr vv vc vr vl x) := hka
          have HKB : Hid (KArg wr uv uc ur ul x) := hkb
          obtain ⟨⟨p1, r1, rfl, _, _⟩, ⟨p2, r2, rfl, _, _⟩, ⟨p3, r3, rfl, _, _⟩, ⟨p4, r4, rfl, _, _⟩⟩ := hka
          obtain ⟨⟨t1, s1, rfl, _, _⟩, ⟨t2, s2, rfl, _, _⟩, ⟨t3, s3, rfl, _, _⟩, ⟨t4, s4, rfl, _, _⟩⟩ := hkb
          have HSC : Hid (∀ Y, Below wr.heap.size wr Y → Calls Tryz.prog 27 #[conV (.slice p1 x.vars.length r1) (.slice p2 x.consts.length r2) (.slice p3 x.rows.length r3) (.slice p4 x.lits.length r4) x, conV (.slice t1 x.vars.length s1) (.slice t2 x.consts.length s2) (.slice t3 x.rows.length s3) (.slice t4 x.lits.length s4) x] Y fun e w' => e = .returned (.bool true) ∧ Below wr.heap.size wr w') := fun Y hY => by
            refine (samecon_eq x _ _ _ _ _ _ _ _ Y (KArg.below hY HKA.out) (KArg.below hY HKB.out)).mono ?_
            rintro e w' ⟨rfl, hb⟩
            exact ⟨rfl, hY.trans (hb.mono hY.size)⟩
          have hk3 : (k : Int) < (m.cons.length : Int) := by omega
          have hk4 : (0 : Int) ≤ (k : Int) := by omega
          clear hx k0 k1 k2 k3 m0 m1 m2 m3
          go_wp2_with fail
          go_region_held3 (fun Y => Below wr.heap.size wr Y ∧ Y.cell? ⟨w.heap.size, 1, none⟩ = some (.slice (some ⟨bb, off, none⟩) m.cons.length c2) ∧ Y.cell? ⟨w.heap.size + 1, 1, none⟩ = some (.slice (some ⟨bb', off', none⟩) m.cons.length d2) ∧ Y.cell? ⟨bb, off + k * 6, none⟩ = some (.int .i64 x.kind) ∧ Y.cell? ⟨bb, off + k * 6 + 1, none⟩ = some (.slice p1 x.vars.length r1) ∧ Y.cell? ⟨bb, off + k * 6 + 2, none⟩ = some (.slice p2 x.consts.length r2) ∧ Y.cell? ⟨bb, off + k * 6 + 3, none⟩ = some (.int .i64 x.n) ∧ Y.cell? ⟨bb, off + k * 6 + 4, none⟩ = some (.slice p3 x.rows.length r3) ∧ Y.cell? ⟨bb, off + k * 6 + 5, none⟩ = some (.slice p4 x.lits.length r4) ∧ Y.cell? ⟨bb', off' + k * 6, none⟩ = some (.int .i64 x.kind) ∧ Y.cell? ⟨bb', off' + k * 6 + 1, none⟩ = some (.slice t1 x.vars.length s1) ∧ Y.cell? ⟨bb', off' + k * 6 + 2, none⟩ = some (.slice t2 x.consts.length s2) ∧ Y.cell? ⟨bb', off' + k * 6 + 3, none⟩ = some (.int .i64 x.n) ∧ Y.cell? ⟨bb', off' + k * 6 + 4, none⟩ = some (.slice t3 x.rows.length s3) ∧ Y.cell? ⟨bb', off' + k * 6 + 5, none⟩ = some (.slice t4 x.lits.length s4))
            ((refine (fun (hB : Below wr.heap.size wr _) => ⟨hB, (hB.cell (p := ⟨w.heap.size, 1, none⟩) hl1).trans u1, (hB.cell (p := ⟨w.heap.size + 1, 1, none⟩) hl2).trans v1, (hB.cell (p := ⟨bb, off + k * 6, none⟩) hb).trans e0, (hB.cell (p := ⟨bb, off + k * 6 + 1, none⟩) hb).trans e1, (hB.cell (p := ⟨bb, off + k * 6 + 2, none⟩) hb).trans e2, (hB.cell (p := ⟨bb, off + k * 6 + 3, none⟩) hb).trans e3, (hB.cell (p := ⟨bb, off + k * 6 + 4, none⟩) hb).trans e4, (hB.cell (p := ⟨bb, off + k * 6 + 5, none⟩) hb).trans e5, (hB.cell (p := ⟨bb', off' + k * 6, none⟩) hb').trans f0, (hB.cell (p := ⟨bb', off' + k * 6 + 1, none⟩) hb').trans f1, (hB.cell (p := ⟨bb', off' + k * 6 + 2, none⟩) hb').trans f2, (hB.cell (p := ⟨bb', off' + k * 6 + 3, none⟩) hb').trans f3, (hB.cell (p := ⟨bb', off' + k * 6 + 4, none⟩) hb').trans f4, (hB.cell (p := ⟨bb', off' + k * 6 + 5, none⟩) hb').trans f5⟩ : Below wr.heap.size wr _ → _) ?_; first | exact (Below.refl _ _).drew | exact hbq3 | exact (show Below wr.heap.size wr _ ∧ _ by assumption).1))
            ((go_at_call 27; refine (HSC.out _ (show Below wr.heap.size wr _ ∧ _ by assumption).1).mono ?_; rintro e w3 ⟨rfl, hbq3⟩))
          have HB3 : Hid (Below W.heap.size W _) := hbw.out.trans (hbq3.mono hbw.out.size)
          go_wp2
          go_roundw
          case rel => exact ⟨k + 1, by omega, by go_num, HB3⟩
          case measure => simp [intOf]; omega
        · have HEN : Hid (Below w.heap.size w wr) := HBW.out.trans (hbw.out.mono HBW.out.size)
          go_wp2
          go_ret
          exact ⟨rfl, HEN.out⟩
end Go.Proofs.YtggkbhafbhhhhabGreatDoor
