/-
  WALKS: package model: constraints, their parts.
-/
import Derived.Test.YtggkbhafbhhhhabGreatDoorModA
namespace Go.Proofs.YtggkbhafbhhhhabGreatDoor
open Go.RowKit

theorem all_hit {α : Type} (p : α → Bool) (l : List α) (m : Nat) (t : α) (ht : l[m]? = some t) (h : p t = false) : l.all p = false := by
  cases ha : l.all p
  · rfl
  · rw [List.all_eq_true.1 ha t (List.mem_of_getElem? ht)] at h; cases h
theorem all_next {α : Type} (p : α → Bool) (l : List α) (m : Nat) (t : α) (ht : l[m]? = some t) (h0 : (l.take m).all p = true) (h : p t = true) : (l.take (m + 1)).all p = true := by
  rw [List.take_add_one, ht, List.all_append, h0]; simp [h]
theorem all_end {α : Type} (p : α → Bool) (l : List α) (m : Nat) (h : ¬ m < l.length) (h0 : (l.take m).all p = true) : l.all p = true := by
  rwa [List.take_of_length_le (by omega)] at h0

set_option maxHeartbeats 400000 in
theorem isvar_any (v n : Int) (w : World) :
    Calls Tryz.prog 84 #[.int .i64 v, .int .i64 n] w fun e w' => e = .returned (.bool (isVarB v n)) ∧ w' = w := by
  unfold isVarB
  go_enter Tryz.func84, Tryz.ntmps84
  go_wp2
  · go_ret; exact ⟨ret_bool (by simp [*]), rfl⟩
  · go_ret; exact ⟨ret_bool (by rw [decide_eq_false (p := 0 ≤ v) (by omega)]; rfl), rfl⟩

set_option maxHeartbeats 400000 in
theorem isconst_any (n : Int) (w : World) :
    Calls Tryz.prog 109 #[.int .i64 n] w fun e w' => e = .returned (.bool (isConstB n)) ∧ w' = w := by
  unfold isConstB
  go_enter Tryz.func109, Tryz.ntmps109
  go_wp2_with fail
  refine (within_any _ 1000 (by omega) (by omega) _).mono ?_
  rintro e w ⟨rfl, rfl⟩
  go_wp2
  go_ret
  exact ⟨rfl, rfl⟩

set_option maxHeartbeats 400000 in
set_option maxRecDepth 100000 in
theorem consts_any (l : List Int) (v : Value) (w : World) (hv : IArg w v l) :
    Calls Tryz.prog 108 #[v] w fun e w' => e = .returned (.bool (l.all isConstB)) ∧ w' = w := by
  obtain ⟨a, c, rfl, hm, hr⟩ := hv
  have HV : Hid (∀ (i : Nat) (z : Int), l[i]? = some z → ∃ b off, a = some ⟨b, off, none⟩ ∧ b < w.heap.size ∧ w.cell? ⟨b, off + i, none⟩ = some (.int .i64 z)) := hr
  obtain ⟨R, hR⟩ : ∃ R, l.all isConstB = R := ⟨_, rfl⟩
  rw [hR]
  have HR : Hid (l.all isConstB = R) := hR
  unfold maxLen at hm
  obtain ⟨hm1, hm⟩ := hm
  clear hr hR
  go_enter Tryz.func108, Tryz.ntmps108
  go_wp2_with fail
  go_loop [7] (fun i => ∃ m : Nat, m ≤ l.length ∧ i = .int .i64 m ∧ Hid ((l.take m).all isConstB = true)) (fun i => l.length - (intOf i).toNat)
  case atStart => exact ⟨0, by omega, rfl, rfl⟩
  case round =>
    obtain ⟨m, hml, rfl, hall⟩ := hrel
    by_cases hlt : m < l.length
    · obtain ⟨z, hz⟩ : ∃ z, l[m]? = some z := ⟨l[m], by simp [hlt]⟩
      obtain ⟨b, off, ha, hb, hc⟩ := HV.out m z hz
      have HZ : Hid (l[m]? = some z) := hz
      subst ha
      clear hz
      cases hq : isConstB z
      · have HN : Hid (R = false) := by rw [← HR.out]; exact all_hit _ l m z HZ.out hq
        go_wp2_with fail
        refine (isconst_any _ _).mono ?_
        rintro e w ⟨rfl, rfl⟩
        rw [hq]
        clear hq
        go_wp2
        go_ret
        exact ⟨ret_bool HN.out.symm, rfl⟩
      · have HN : Hid ((l.take (m + 1)).all isConstB = true) := all_next _ l m z HZ.out hall.out hq
        go_wp2_with fail
        refine (isconst_any _ _).mono ?_
        rintro e w ⟨rfl, rfl⟩
        rw [hq]
        clear hq
        go_wp2
        go_round
        case rel => exact ⟨m + 1, by omega, by go_num, HN⟩
        case measure => simp [intOf]; omega
    · have HN : Hid (R = true) := by rw [← HR.out]; exact all_end _ l m hlt hall.out
      go_wp2
      go_ret
      exact ⟨ret_bool HN.out.symm, rfl⟩

set_option maxHeartbeats 400000 in
set_option maxRecDepth 100000 in
theorem long_any (l : List (List Int)) (v : Value) (n : Nat) (w : World) (hv : RArg w v l) :
    Calls Tryz.prog 107 #[v, .int .i64 n] w fun e w' => e = .returned (.bool (l.all fun r => decide (r.length = n))) ∧ w' = w := by
  obtain ⟨a, c, rfl, hm, hr⟩ := hv
  have HV : Hid (∀ (i : Nat) (r : List Int), l[i]? = some r → ∃ b off x, a = some ⟨b, off, none⟩ ∧ b < w.heap.size ∧ w.cell? ⟨b, off + i, none⟩ = some x ∧ IArg w x r) := hr
  obtain ⟨R, hR⟩ : ∃ R, (l.all fun r => decide (r.length = n)) = R := ⟨_, rfl⟩
  rw [hR]
  have HR : Hid ((l.all fun r => decide (r.length = n)) = R) := hR
  unfold maxLen at hm
  obtain ⟨hm1, hm⟩ := hm
  clear hr hR
  go_enter Tryz.func107, Tryz.ntmps107
  go_wp2_with fail
  go_loop [9] (fun i => ∃ m : Nat, m ≤ l.length ∧ i = .int .i64 m ∧ Hid ((l.take m).all (fun r => decide (r.length = n)) = true)) (fun i => l.length - (intOf i).toNat)
  case atStart => exact ⟨0, by omega, rfl, rfl⟩
  case round =>
    obtain ⟨m, hml, rfl, hall⟩ := hrel
    by_cases hlt : m < l.length
    · obtain ⟨z, hz⟩ : ∃ z, l[m]? = some z := ⟨l[m], by simp [hlt]⟩
      obtain ⟨b, off, x, ha, hb, hc, hx⟩ := HV.out m z hz
      obtain ⟨a2, c2, rfl, hm2, _⟩ := hx
      have HZ : Hid (l[m]? = some z) := hz
      subst ha
      clear hz hm2
      by_cases hq : z.length = n
      · have HN : Hid ((l.take (m + 1)).all (fun r => decide (r.length = n)) = true) := all_next _ l m z HZ.out hall.out (decide_eq_true hq)
        have hq2 : ((z.length : Int) != (n : Int)) = false := by simp [hq]
        clear hq
        go_wp2
        go_round
        case rel => exact ⟨m + 1, by omega, by go_num, HN⟩
        case measure => simp [intOf]; omega
      · have HN : Hid (R = false) := by rw [← HR.out]; exact all_hit _ l m z HZ.out (decide_eq_false hq)
        have hq2 : ((z.length : Int) != (n : Int)) = true := by simp; omega
        clear hq
        go_wp2
        go_ret
        exact ⟨ret_bool HN.out.symm, rfl⟩
    · have HN : Hid (R = true) := by rw [← HR.out]; exact all_end _ l m hlt hall.out
      go_wp2
      go_ret
      exact ⟨ret_bool HN.out.symm, rfl⟩

def opB (l : MLit) : Bool := decide (1 ≤ l.op) && decide (l.op ≤ 4)
set_option maxHeartbeats 800000 in
set_option maxRecDepth 100000 in
theorem lits_any (l : List MLit) (v : Value) (w : World) (hv : LArg w v l) :
    Calls Tryz.prog 83 #[v] w fun e w' => e = .returned (.int .i64 (litsE l)) ∧ Below w.heap.size w w' := by
  obtain ⟨a, c, rfl, hm, hr⟩ := hv
  have HV : Hid (∀ (i : Nat) (t : MLit), l[i]? = some t → ∃ b off, a = some ⟨b, off, none⟩ ∧ b < w.heap.size ∧
    w.cell? ⟨b, off + i * 3, none⟩ = some (.int .i64 t.var) ∧ w.cell? ⟨b, off + i * 3 + 1, none⟩ = some (.int .i64 t.op) ∧ w.cell? ⟨b, off + i * 3 + 2, none⟩ = some (.int .i64 t.n)) := hr
  obtain ⟨R, hR⟩ : ∃ R, litsE l = R := ⟨_, rfl⟩
  rw [hR]
  have hE : R = (if l.all opB then (if l.all (fun t => isConstB t.n) then 0 else 3) else 7) := by rw [← hR]; rfl
  have HE : Hid (R = (if l.all opB then (if l.all (fun t => isConstB t.n) then 0 else 3) else 7)) := hE
  unfold maxLen at hm
  obtain ⟨hm1, hm⟩ := hm
  clear hr hR hE
  go_enter Tryz.func83, Tryz.ntmps83
  go_wp2_with fail
  go_loopw [9] (fun i wr => ∃ m : Nat, m ≤ l.length ∧ i = .int .i64 m ∧ Hid ((l.take m).all opB = true) ∧ Below w.heap.size w wr) (fun i _ => l.length - (intOf i).toNat)
  case atStart => exact ⟨0, by omega, rfl, rfl, Below.refl _ _⟩
  case round =>
    obtain ⟨m, hml, rfl, hall, hbw⟩ := hrel
    by_cases hlt : m < l.length
    · obtain ⟨t, hz⟩ : ∃ z, l[m]? = some z := ⟨l[m], by simp [hlt]⟩
      obtain ⟨b, off, ha, hb, c0, c1, c2⟩ := HV.out m t hz
      have HZ : Hid (l[m]? = some t) := hz
      have hc0 := (hbw.cell (p := ⟨b, off + m * 3, none⟩) hb).trans c0
      have hc1 := (hbw.cell (p := ⟨b, off + m * 3 + 1, none⟩) hb).trans c1
      have hc2 := (hbw.cell (p := ⟨b, off + m * 3 + 2, none⟩) hb).trans c2
      have hsz := hbw.size
      subst ha
      clear hz c0 c1 c2
      by_cases h1 : 1 ≤ t.op
      · by_cases h4 : t.op ≤ 4
        · have HN : Hid ((l.take (m + 1)).all opB = true) := all_next _ l m t HZ.out hall.out (by unfold opB; rw [decide_eq_true h1, decide_eq_true h4]; rfl)
          go_wp2
          go_roundw
          case rel => exact ⟨m + 1, by omega, by go_num, HN, hbw.alloc hsz _⟩
          case measure => simp [intOf]; omega
        · have HN : Hid (R = 7) := by rw [HE.out, all_hit opB l m t HZ.out (by unfold opB; rw [decide_eq_true h1, decide_eq_false h4]; rfl)]; rfl
          go_wp2
          go_ret
          exact ⟨ret_int HN.out.symm, hbw.alloc hsz _⟩
      · have HN : Hid (R = 7) := by rw [HE.out, all_hit opB l m t HZ.out (by unfold opB; rw [decide_eq_false h1]; rfl)]; rfl
        go_wp2
        go_ret
        exact ⟨ret_int HN.out.symm, hbw.alloc hsz _⟩
    · have HOP : Hid (l.all opB = true) := all_end _ l m hlt hall.out
      have hsz := hbw.size
      obtain ⟨wo, rfl⟩ : ∃ wo : World, wo = wr := ⟨_, rfl⟩
      go_wp2
      go_loopw [24] (fun i wr => ∃ m : Nat, m ≤ l.length ∧ i = .int .i64 m ∧ Hid ((l.take m).all (fun t => isConstB t.n) = true) ∧ Below w.heap.size w wr) (fun i _ => l.length - (intOf i).toNat)
      case atStart => exact ⟨0, by omega, rfl, rfl, hbw⟩
      case round =>
        clear hbw hsz hall hml hlt
        obtain ⟨m, hml, rfl, hall, hbw⟩ := hrel
        by_cases hlt : m < l.length
        · obtain ⟨t, hz⟩ : ∃ z, l[m]? = some z := ⟨l[m], by simp [hlt]⟩
          obtain ⟨b, off, ha, hb, c0, c1, c2⟩ := HV.out m t hz
          have HZ : Hid (l[m]? = some t) := hz
          have hc0 := (hbw.cell (p := ⟨b, off + m * 3, none⟩) hb).trans c0
          have hc1 := (hbw.cell (p := ⟨b, off + m * 3 + 1, none⟩) hb).trans c1
          have hc2 := (hbw.cell (p := ⟨b, off + m * 3 + 2, none⟩) hb).trans c2
          have hsz := hbw.size
          subst ha
          clear hz c0 c1 c2
          cases hq : isConstB t.n
          · have HN : Hid (R = 3) := by rw [HE.out, HOP.out, all_hit (fun t : MLit => isConstB t.n) l m t HZ.out hq]; rfl
            go_wp2_with fail
            refine (isconst_any _ _).mono ?_
            rintro e w2 ⟨rfl, hw2⟩
            rw [hq, hw2]
            clear hq hw2
            go_wp2
            go_ret
            exact ⟨ret_int HN.out.symm, hbw.alloc hsz _⟩
          · have HN : Hid ((l.take (m + 1)).all (fun t => isConstB t.n) = true) := all_next _ l m t HZ.out hall.out hq
            go_wp2_with fail
            refine (isconst_any _ _).mono ?_
            rintro e w2 ⟨rfl, hw2⟩
            rw [hq, hw2]
            clear hq hw2
            go_wp2
            go_roundw
            case rel => exact ⟨m + 1, by omega, by go_num, HN, hbw.alloc hsz _⟩
            case measure => simp [intOf]; omega
        · have HN : Hid (R = 0) := by rw [HE.out, HOP.out, all_end _ l m hlt hall.out]; rfl
          go_wp2
          go_ret
          exact ⟨ret_int HN.out.symm, hbw⟩
end Go.Proofs.YtggkbhafbhhhhabGreatDoor
