/-
  PART 6 of what the proof leans on (StoA, StoB, StoC, FenB, StoD, OldA, FenE, SifA, FenF, FenG, FenH, FenC, FenT, FenD, FixL, FauA, FauB, FauC).
-/
import Derived.Test.YtdjbejlbmaiocagGreatDoorPartE
import Derived.Deep.RegionHeld3
import Derived.Laws.OwnMore
import Derived.Deep.RegionLaw
import Derived.Deep.OwnRows
import Derived.Deep.Onto
import Derived.Laws.EntriesVeiled
import Derived.Shelf.Spec.TrailingZeros
/-
  WALKS: package store: rises; slices.Index, Contains, IndexFunc, ContainsFunc over numbers.
-/
namespace Go.Proofs.YtdjbejlbmaiocagGreatDoor
open Go.RowKit

theorem draws_below {w w' : World} {n : Nat} (h : w' = w.drewN n) : Below w.heap.size w w' := by rw [h]; exact below_drewN (Below.refl _ _) _
theorem rises_get (l : List Int) : risesB l = true ↔ ∀ (i : Nat) x y, l[i]? = some x → l[i + 1]? = some y → x < y := by
  induction l with
  | nil => simp [risesB]
  | cons a r ih =>
    cases r with
    | nil => simp [risesB]
    | cons b r =>
      simp only [risesB, Bool.and_eq_true, decide_eq_true_eq]
      rw [ih]
      constructor
      · rintro ⟨h0, h1⟩ i x y hx hy
        cases i with
        | zero => simp at hx hy; omega
        | succ i => exact h1 i x y (by simpa using hx) (by simpa using hy)
      · intro h
        exact ⟨h 0 a b rfl rfl, fun i x y hx hy => h (i + 1) x y (by simpa using hx) (by simpa using hy)⟩
theorem rises_take (l : List Int) (k : Nat) (x y : Int) (hx : l[k]? = some x) (hy : l[k + 1]? = some y) (h : risesB (l.take (k + 1)) = true) (hxy : x < y) : risesB (l.take (k + 1 + 1)) = true := by
  rw [rises_get] at *
  intro i u v hu hv
  rw [List.getElem?_take] at hu hv
  split at hv
  · split at hu
    · by_cases hi : i = k
      · subst hi; rw [hx] at hu; rw [hy] at hv; cases hu; cases hv; exact hxy
      · exact h i u v (by rw [List.getElem?_take, if_pos (by omega)]; exact hu) (by rw [List.getElem?_take, if_pos (by omega)]; exact hv)
    · cases hu
  · cases hv
theorem rises_hit (l : List Int) (k : Nat) (x y : Int) (hx : l[k]? = some x) (hy : l[k + 1]? = some y) (hxy : y ≤ x) : risesB l = false := by
  cases h : risesB l
  · rfl
  · have := (rises_get l).1 h k x y hx hy; omega
theorem rises_one (l : List Int) : risesB (l.take 1) = true := by
  rcases l with _ | ⟨a, r⟩ <;> simp [risesB]

theorem any_hit {α : Type} (p : α → Bool) (l : List α) (m : Nat) (t : α) (ht : l[m]? = some t) (h : p t = true) : l.any p = true := List.any_eq_true.2 ⟨t, List.mem_of_getElem? ht, h⟩
theorem any_next {α : Type} (p : α → Bool) (l : List α) (m : Nat) (t : α) (ht : l[m]? = some t) (h0 : (l.take m).any p = false) (h : p t = false) : (l.take (m + 1)).any p = false := by
  rw [List.take_add_one, ht, List.any_append, h0]; simp [h]
theorem any_end {α : Type} (p : α → Bool) (l : List α) (m : Nat) (h : ¬ m < l.length) (h0 : (l.take m).any p = false) : l.any p = false := by
  rwa [List.take_of_length_le (by omega)] at h0

/-- A closure over numbers that only reads what is old. -/
def ClosI (F : Nat) (caps : Array Value) (p : Int → Bool) (w : World) : Prop :=
  (∀ (args : Array Value) (w' : World), Sem.run Tryz.prog (callFunc F args) w' = .ok (.enter F args) w') ∧ ∀ (z : Int) (w' : World), Below w.heap.size w w' → Calls Tryz.prog F (#[.int .i64 z] ++ caps) w' fun e w'' => e = .returned (.bool (p z)) ∧ Below w'.heap.size w' w''
end Go.Proofs.YtdjbejlbmaiocagGreatDoor
/-
  WALKS: package store: checkValues, check.
-/
namespace Go.Proofs.YtdjbejlbmaiocagGreatDoor
open Go.RowKit

theorem any_not {α : Type} (p : α → Bool) (l : List α) : (l.any fun x => !p x) = !l.all p := by
  induction l with
  | nil => rfl
  | cons a r ih => rw [List.any_cons, List.all_cons, ih]; cases p a <;> simp

/-- Stores, one after the other, as a variadic call has them. -/
def GArg (w : World) (v : Value) (l : List Sto) : Prop :=
  ∃ a c, v = .slice a l.length c ∧ (l.length ≤ c ∧ c ≤ maxLen) ∧ ∀ (i : Nat) (r : Sto), l[i]? = some r → ∃ b off x, a = some ⟨b, off, none⟩ ∧ b < w.heap.size ∧ w.cell? ⟨b, off + i, none⟩ = some x ∧ RArg w x r
theorem GArg.below {w w' : World} {v : Value} {l : List Sto} (hb : Below w.heap.size w w') (h : GArg w v l) : GArg w' v l := by
  obtain ⟨a, c, hv, hm, hr⟩ := h
  refine ⟨a, c, hv, hm, fun i z hz => ?_⟩
  obtain ⟨b, off, x, ha, hlt, hc, hx⟩ := hr i z hz
  exact ⟨b, off, x, ha, Nat.lt_of_lt_of_le hlt hb.size, (hb.cell (p := ⟨b, off + i, none⟩) hlt).trans hc, RArg.below hb hx⟩

end Go.Proofs.YtdjbejlbmaiocagGreatDoor
/-
  WALKS: package store: Check, Within, Failed.
-/
namespace Go.Proofs.YtdjbejlbmaiocagGreatDoor
open Go.RowKit

/-- One store, or two, in a row of their own. -/
theorem garg_one {w : World} {v : Value} {s : Sto} {B : Nat} (hB : B = w.heap.size) (h : RArg w v s) : GArg (w.alloc (.cells #[v] 188)) (.slice (some ⟨B, 0, none⟩) 1 1) [s] := by
  subst hB
  refine ⟨_, 1, rfl, ⟨by simp, by unfold maxLen; omega⟩, fun i r hr => ?_⟩
  match i, hr with
  | 0, hr => cases hr; exact ⟨_, _, v, rfl, by simp, by simp, RArg.below (below_alloc _ _) h⟩
theorem garg_two {w : World} {v u : Value} {s t : Sto} {B : Nat} (hB : B = w.heap.size) (h : RArg w v s) (k : RArg w u t) : GArg (w.alloc (.cells #[v, u] 188)) (.slice (some ⟨B, 0, none⟩) 2 2) [s, t] := by
  subst hB
  refine ⟨_, 2, rfl, ⟨by simp, by unfold maxLen; omega⟩, fun i r hr => ?_⟩
  match i, hr with
  | 0, hr => cases hr; exact ⟨_, _, v, rfl, by simp, by simp, RArg.below (below_alloc _ _) h⟩
  | 1, hr => cases hr; exact ⟨_, _, u, rfl, by simp, by simp, RArg.below (below_alloc _ _) k⟩

def withinA (m : Mod) (s t : Sto) : Bool × Int := if checkL m [s, t] = 0 then (withinS s t, 0) else (false, checkL m [s, t])
theorem checkL_two (m : Mod) (s t : Sto) : checkL m [s, t] = 0 ↔ checkM m = 0 ∧ checkV m.vars s = 0 ∧ checkV m.vars t = 0 := by
  unfold checkL
  by_cases h : checkM m = 0
  · rw [if_pos h]
    simp only [List.map, firstE]
    by_cases h1 : checkV m.vars s = 0
    · rw [if_pos h1]
      by_cases h2 : checkV m.vars t = 0
      · simp [h, h1, h2]
      · simp [h2]
    · simp [h1]
  · rw [if_neg h]; simp [h]

def failedA (m : Mod) (s : Sto) : Bool × Int := if checkL m [s] = 0 then (failedS s, 0) else (false, checkL m [s])
end Go.Proofs.YtdjbejlbmaiocagGreatDoor
/-
  WALKS: package fence: Whole, Stored, Held, Says.
-/
namespace Go.Proofs.YtdjbejlbmaiocagGreatDoor
open Go.RowKit

set_option maxHeartbeats 400000 in
theorem wholes_any (x y : Value) (w : World) : Calls Tryz.prog 246 #[x, y] w fun e w' => e = .returned (.bool true) ∧ Below w.heap.size w w' := by
  go_enter Tryz.func246, Tryz.ntmps246
  go_wp2
  go_ret
  exact ⟨rfl, Below.refl _ _⟩
theorem enters_whole (args : Array Value) (w' : World) : Sem.run Tryz.prog (callFunc 246 args) w' = .ok (.enter 246 args) w' := by
  simp [callFunc, go_sem, Tryz.func246, Tryz.f246]
set_option maxHeartbeats 400000 in
theorem whole_any (vs : List MVar) (hva : VarsAll vs) (sv : Value) (w : World) (hv : VArg w sv vs) :
    Calls Tryz.prog 183 #[sv] w fun e w' => e = .returned (.int .u64 ((wholeP vs : Nat) : Int)) ∧ Below w.heap.size w w' := by
  have HV : Hid (VArg w sv vs) := hv
  have HVO : Hid (VarsAll vs) := hva
  obtain ⟨a, c, rfl, _, _⟩ := hv
  clear hva
  go_enter Tryz.func183, Tryz.ntmps183
  go_wp2_with fail
  refine (of_any 246 #[] vs (fun _ _ => true) HVO.out _ _ HV.out ⟨enters_whole, fun k z w' _ _ _ _ => wholes_any _ _ w'⟩).mono ?_
  rintro e w1 ⟨rfl, hb1⟩
  go_wp2
  go_ret
  exact ⟨rfl, hb1⟩


set_option maxHeartbeats 400000 in
theorem held_one (c : Cla) (k : Nat) (z : Int) (u : Value) (b1 : Nat) (w : World) (hu : LArg w u c) (h1 : w.cell? ⟨b1, 0, none⟩ = some u) :
    Calls Tryz.prog 188 #[.int .i64 k, .int .i64 z, .pointer (some ⟨b1, 0, none⟩)] w fun e w' => e = .returned (.bool (oneB c k z)) ∧ Below w.heap.size w w' := by
  have HU : Hid (LArg w u c) := hu
  obtain ⟨a, cc, rfl, _, _⟩ := hu
  go_enter Tryz.func188, Tryz.ntmps188
  go_wp2_with fail
  refine (one_of c k z _ _ HU.out).mono ?_
  rintro e w1 ⟨rfl, hb1⟩
  go_wp2
  go_ret
  exact ⟨rfl, hb1⟩
theorem enters_held (args : Array Value) (w' : World) : Sem.run Tryz.prog (callFunc 188 args) w' = .ok (.enter 188 args) w' := by
  simp [callFunc, go_sem, Tryz.func188, Tryz.f188]
set_option maxHeartbeats 400000 in
theorem held_any (vs : List MVar) (hva : VarsAll vs) (cl : Cla) (sv u : Value) (w : World) (hv : VArg w sv vs) (hu : LArg w u cl) :
    Calls Tryz.prog 128 #[sv, u] w fun e w' => e = .returned (.int .u64 ((heldP vs cl : Nat) : Int)) ∧ Below w.heap.size w w' := by
  have HV : Hid (∀ w', Below w.heap.size w w' → VArg w' sv vs) := fun w' h => VArg.below h hv
  have HU : Hid (∀ w', Below w.heap.size w w' → LArg w' u cl) := fun w' h => LArg.below h hu
  have HVO : Hid (VarsAll vs) := hva
  obtain ⟨a, c, rfl, _, _⟩ := hv
  obtain ⟨a2, c2, rfl, _, _⟩ := hu
  clear hva
  go_enter Tryz.func128, Tryz.ntmps128
  go_wp2_with fail
  refine (of_any 188 _ vs (fun v x => oneB cl v x) HVO.out _ _ (HV.out _ (below_alloc _ _)) ⟨enters_held, fun k z w' hk _ _ hb' => ?_⟩).mono ?_
  · exact held_one cl k z _ w.heap.size w' (HU.out _ ((below_alloc _ _).trans (hb'.mono (by simp)))) ((hb'.cell (by simp)).trans (World.cell?_alloc_at _ _ _ 0 (by simp)))
  rintro e w1 ⟨rfl, hb1⟩
  have hb2 : Below w.heap.size w w1 := (below_alloc _ _).trans (hb1.mono (by simp))
  clear hb1
  go_wp2
  go_ret
  exact ⟨rfl, hb2⟩

/-- A list of parts. -/
def PArg (w : World) (v : Value) (l : List Nat) : Prop :=
  ∃ a c, v = .slice a l.length c ∧ (l.length ≤ c ∧ c ≤ maxLen) ∧ ∀ (i z : Nat), l[i]? = some z → z < 2 ^ 36 ∧ ∃ b off, a = some ⟨b, off, none⟩ ∧ b < w.heap.size ∧ w.cell? ⟨b, off + i, none⟩ = some (.int .u64 z)
theorem PArg.below {w w' : World} {v : Value} {l : List Nat} (hb : Below w.heap.size w w') (h : PArg w v l) : PArg w' v l := by
  obtain ⟨a, c, hv, hm, hr⟩ := h
  refine ⟨a, c, hv, hm, fun i z hz => ?_⟩
  obtain ⟨hz36, b, off, ha, hlt, hc⟩ := hr i z hz
  exact ⟨hz36, b, off, ha, Nat.lt_of_lt_of_le hlt hb.size, (hb.cell (p := ⟨b, off + i, none⟩) hlt).trans hc⟩

set_option maxHeartbeats 400000 in
theorem stays_one (p h : Nat) (hp : p < 2 ^ 36) (hh : h < 2 ^ 36) (b1 : Nat) (w : World) (h1 : w.cell? ⟨b1, 0, none⟩ = some (.int .u64 h)) :
    Calls Tryz.prog 181 #[.int .u64 p, .pointer (some ⟨b1, 0, none⟩)] w fun e w' => e = .returned (.bool (stayP h p)) ∧ w' = w := by
  have hb := bits_and_u64_nat p h (by omega) (by omega)
  have HN : Hid (stayP h p = (((p &&& h : Nat) : Int) == 0)) := by
    show _ = _
    unfold stayP
    by_cases h0 : p &&& h = 0
    · simp [h0]
    · have : (((p &&& h : Nat) : Int) == 0) = false := by simpa using h0
      rw [this]; simpa using h0
  rw [HN.out]
  obtain ⟨q, hq⟩ : ∃ q, p &&& h = q := ⟨_, rfl⟩
  rw [hq] at hb ⊢
  clear hq hp hh
  go_enter Tryz.func181, Tryz.ntmps181
  go_wp2
  go_ret
  exact ⟨rfl, rfl⟩
theorem enters_stays1 (args : Array Value) (w' : World) : Sem.run Tryz.prog (callFunc 181 args) w' = .ok (.enter 181 args) w' := by
  simp [callFunc, go_sem, Tryz.func181, Tryz.f181]

set_option maxHeartbeats 400000 in
set_option maxRecDepth 100000 in
theorem indexf_parts (h : Nat) (hh : h < 2 ^ 36) (b1 : Nat) (l : List Nat) (v : Value) (w : World) (hv : PArg w v l) (h1 : w.cell? ⟨b1, 0, none⟩ = some (.int .u64 h)) :
    Calls Tryz.prog 247 #[v, .func (.func 181) #[] #[.pointer (some ⟨b1, 0, none⟩)]] w fun e w' => (∃ z : Int, e = .returned (.int .i64 z) ∧ (decide (0 ≤ z)) = l.any (stayP h)) ∧ w' = w := by
  obtain ⟨a, c, rfl, hm, hr⟩ := hv
  have HV : Hid (∀ (i z : Nat), l[i]? = some z → z < 2 ^ 36 ∧ ∃ b off, a = some ⟨b, off, none⟩ ∧ b < w.heap.size ∧ w.cell? ⟨b, off + i, none⟩ = some (.int .u64 z)) := hr
  have HH : Hid (h < 2 ^ 36) := hh
  unfold maxLen at hm
  obtain ⟨hm1, hm⟩ := hm
  clear hr hh
  go_enter Tryz.func247, Tryz.ntmps247
  go_wp2_with fail
  go_loopw [8] (fun i wr => ∃ k : Nat, k ≤ l.length ∧ i = .int .i64 k ∧ Hid ((l.take k).any (stayP h) = false) ∧ wr = w) (fun i _ => l.length - (intOf i).toNat)
  case atStart => exact ⟨0, by omega, rfl, rfl, rfl⟩
  case round =>
    obtain ⟨k, hk, rfl, hall, rfl⟩ := hrel
    by_cases hlt : k < l.length
    · obtain ⟨z, hz⟩ : ∃ z, l[k]? = some z := ⟨l[k], by simp [hlt]⟩
      obtain ⟨hz36, b, off, ha, hb, hc⟩ := HV.out k z hz
      subst ha
      have HZ : Hid (l[k]? = some z) := hz
      have HZ36 : Hid (z < 2 ^ 36) := hz36
      clear hz hz36
      cases hq : stayP h z
      · have HN : Hid ((l.take (k + 1)).any (stayP h) = false) := by show _ = _; rw [List.take_add_one, HZ.out, List.any_append, hall.out]; simp [hq]
        have HC := stays_one z h HZ36.out HH.out b1 wr h1
        rw [hq] at HC
        have HC2 : Hid (Calls Tryz.prog 181 #[.int .u64 z, .pointer (some ⟨b1, 0, none⟩)] wr fun e w' => e = .returned (.bool false) ∧ w' = wr) := HC
        clear HC hq hall
        go_wp2_with fail
        refine HC2.out.mono ?_
        rintro e w ⟨rfl, rfl⟩
        go_wp2
        go_roundw
        case rel => exact ⟨k + 1, by omega, by go_num, HN, trivial⟩
        case measure => simp [intOf]; omega
      · have HN : Hid (l.any (stayP h) = true) := List.any_eq_true.2 ⟨z, List.mem_of_getElem? HZ.out, hq⟩
        have HC := stays_one z h HZ36.out HH.out b1 wr h1
        rw [hq] at HC
        have HC2 : Hid (Calls Tryz.prog 181 #[.int .u64 z, .pointer (some ⟨b1, 0, none⟩)] wr fun e w' => e = .returned (.bool true) ∧ w' = wr) := HC
        clear HC hq hall
        go_wp2_with fail
        refine HC2.out.mono ?_
        rintro e w ⟨rfl, rfl⟩
        go_wp2
        go_ret
        exact ⟨⟨k, rfl, by rw [HN.out]; simp⟩, rfl⟩
    · have hke : k = l.length := by omega
      have HN : Hid (l.any (stayP h) = false) := by have := hall.out; rw [hke, List.take_length] at this; exact this
      clear hall hke
      go_wp2
      go_ret
      exact ⟨⟨-1, rfl, by rw [HN.out]; simp⟩, rfl⟩
set_option maxHeartbeats 400000 in
theorem containsf_parts (h : Nat) (hh : h < 2 ^ 36) (b1 : Nat) (l : List Nat) (v : Value) (w : World) (hv : PArg w v l) (h1 : w.cell? ⟨b1, 0, none⟩ = some (.int .u64 h)) :
    Calls Tryz.prog 184 #[v, .func (.func 181) #[] #[.pointer (some ⟨b1, 0, none⟩)]] w fun e w' => e = .returned (.bool (l.any (stayP h))) ∧ w' = w := by
  have HV : Hid (PArg w v l) := hv
  have HH : Hid (h < 2 ^ 36) := hh
  obtain ⟨a, c, rfl, _, _⟩ := hv
  clear hh
  go_enter Tryz.func184, Tryz.ntmps184
  go_wp2_with fail
  refine (indexf_parts h HH.out b1 l _ _ HV.out h1).mono ?_
  rintro e w ⟨⟨z, rfl, hz⟩, rfl⟩
  have HZ : Hid (decide (0 ≤ z) = l.any (stayP h)) := hz
  clear hz
  go_wp2
  go_ret
  exact ⟨ret_bool HZ.out, rfl⟩
end Go.Proofs.YtdjbejlbmaiocagGreatDoor
/-
  PLAIN: how long the rows of a right store are. MEMORY: a store that is being built, row by row.
-/
namespace Go.Proofs.YtdjbejlbmaiocagGreatDoor
open Go.RowKit

theorem rises_len (l : List Int) : ∀ (lo hi : Int), l.Pairwise (· < ·) → (∀ n ∈ l, lo ≤ n ∧ n ≤ hi) → (l.length : Int) ≤ max 0 (hi - lo + 1) := by
  induction l with
  | nil => intro lo hi _ _; simp; omega
  | cons a r ih =>
    intro lo hi hp hb
    have h1 := ih (a + 1) hi (List.pairwise_cons.1 hp).2 (fun n hn => by
      have := (List.pairwise_cons.1 hp).1 n hn
      have := hb n (List.mem_cons_of_mem _ hn)
      omega)
    have h2 := hb a (List.mem_cons_self ..)
    rw [List.length_cons]
    push_cast
    omega
theorem row_short (m : Mod) (s : Sto) (hm : checkM m = 0) (hs : checkV m.vars s = 0) (i : Nat) (r : List Int) (hr : s[i]? = some r) : r.length ≤ 6 := by
  obtain ⟨h1, h2, h3⟩ := (checkV_ok _ _).1 hs
  have hi : i < s.length := (List.getElem?_eq_some_iff.1 hr).1
  obtain ⟨v, hv⟩ : ∃ v, m.vars[i]? = some v := ⟨m.vars[i]'(by omega), by simp⟩
  have hvo := var_ok m hm i v hv
  have hin := (all_zip _ _ _).1 h2 i v r hv hr
  have hri := List.all_eq_true.1 h3 r (List.mem_of_getElem? hr)
  have := rises_len r v.lo v.hi ((rises_pair r).1 hri) (fun n hn => by
    have := List.all_eq_true.1 hin n hn
    simpa [insideB] using this)
  omega

/-- Numbers of one's own, as a list. -/
theorem own_ilist {w : World} {base : Nat} {v : Value} {r : List Int} (h : w.ownsRow base 3 1 v r.length (r.map (Value.int .i64))) : IArg w v r := by
  rcases h.2 with ⟨rfl, hn⟩ | ⟨g, cap, cur, rfl, hg, hh, hc1, hc2, _, _⟩
  · have : r = [] := List.eq_nil_of_length_eq_zero hn
    subst this
    exact ⟨none, 0, rfl, ⟨Nat.le_refl _, Nat.zero_le _⟩, fun i z hz => by simp at hz⟩
  · refine ⟨_, cap, rfl, ⟨hc1, hc2⟩, fun i z hz => ⟨g, 0, rfl, (Array.getElem?_eq_some_iff.1 hh).1, ?_⟩⟩
    have hi : i < r.length := (List.getElem?_eq_some_iff.1 hz).1
    rw [Nat.zero_add, h.cellAt i (by omega), List.getElem?_map, hz]; rfl

theorem own_mono {w : World} {base base' : Nat} {e : TypeId} {size : Nat} {v : Value} {n : Nat} {xs : List Value} (h : w.ownsRow base e size v n xs) (hb : base' ≤ base) : w.ownsRow base' e size v n xs := by
  refine ⟨h.1, ?_⟩
  rcases h.2 with hn | ⟨g, cap, cur, hv, hg, r⟩
  · exact .inl hn
  · exact .inr ⟨g, cap, cur, hv, Nat.le_trans hb hg, r⟩
/-- What is owned stays so where its block does. -/
theorem own_at {w w' : World} {base : Nat} {e : TypeId} {size : Nat} {v : Value} {n : Nat} {xs : List Value} (h : w.ownsRow base e size v n xs) (hk : ∀ g, v.ownBlock = some g → w'.heap[g]? = w.heap[g]?) : w'.ownsRow base e size v n xs := by
  refine ⟨h.1, ?_⟩
  rcases h.2 with hn | ⟨g, cap, cur, hv, hg, hh, r⟩
  · exact .inl hn
  · exact .inr ⟨g, cap, cur, hv, hg, by rw [hk g (by rw [hv]; rfl)]; exact hh, r⟩

/-- A store that is being built: its first k rows are made. -/
def SRows (w : World) (base B n : Nat) (cells : List Value) (M : Sto) (k : Nat) : Prop :=
  w.ownsRow base 26 1 (.slice (some ⟨B, 0, none⟩) n n) n cells ∧
  (∀ i r, i < k → M[i]? = some r → ∃ x, cells[i]? = some x ∧ w.ownsRow (B + 1) 3 1 x r.length (r.map (Value.int .i64))) ∧
  (∀ i, k ≤ i → i < n → cells[i]? = some (.slice none 0 0))
/-- .. and of row k so much as acc is made, above block K. -/
def SRowsIn (w : World) (base B n : Nat) (cells : List Value) (M : Sto) (k K : Nat) (acc : List Int) : Prop :=
  w.ownsRow base 26 1 (.slice (some ⟨B, 0, none⟩) n n) n cells ∧
  (∀ i r, i < k → M[i]? = some r → ∃ x, cells[i]? = some x ∧ w.ownsRow (B + 1) 3 1 x r.length (r.map (Value.int .i64)) ∧ ∀ g, x.ownBlock = some g → g < K) ∧
  (∃ x, cells[k]? = some x ∧ w.ownsRow K 3 1 x acc.length (acc.map (Value.int .i64))) ∧
  (∀ i, k < i → i < n → cells[i]? = some (.slice none 0 0)) ∧ B < K ∧ K ≤ w.heap.size ∧ k < n

theorem SRows.into {w : World} {base B n : Nat} {cells : List Value} {M : Sto} {k : Nat} (h : SRows w base B n cells M k) (hk : k < n) : SRowsIn w base B n cells M k w.heap.size [] := by
  obtain ⟨h1, h2, h3⟩ := h
  refine ⟨h1, fun i r hi hr => ?_, ⟨_, h3 k (Nat.le_refl _) hk, World.ownsRow_nil _ _ _ _⟩, fun i hi hn => h3 i (by omega) hn, (h1.lt B rfl).2, Nat.le_refl _, hk⟩
  obtain ⟨x, hx, ho⟩ := h2 i r hi hr
  exact ⟨x, hx, ho, fun g hg => (ho.lt g hg).2⟩
theorem SRowsIn.done {w : World} {base B n : Nat} {cells : List Value} {M : Sto} {k K : Nat} {acc : List Int} (h : SRowsIn w base B n cells M k K acc) (hM : M[k]? = some acc) : SRows w base B n cells M (k + 1) := by
  obtain ⟨h1, h2, ⟨x, hx, ho⟩, h4, h5, _, _⟩ := h
  refine ⟨h1, fun i r hi hr => ?_, fun i hi hn => h4 i (by omega) hn⟩
  by_cases hik : i < k
  · obtain ⟨y, hy, hoy, _⟩ := h2 i r hik hr
    exact ⟨y, hy, hoy⟩
  · obtain rfl : i = k := by omega
    rw [hM] at hr; cases hr
    exact ⟨x, hx, own_mono ho (by omega)⟩
theorem SRowsIn.kept {w w' : World} {base B n : Nat} {cells : List Value} {M : Sto} {k K : Nat} {acc : List Int} (h : SRowsIn w base B n cells M k K acc) (hb : Below w.heap.size w w') : SRowsIn w' base B n cells M k K acc := by
  obtain ⟨h1, h2, ⟨x, hx, ho⟩, h4, h5, h6, h7⟩ := h
  refine ⟨own_below h1 hb, fun i r hi hr => ?_, ⟨x, hx, own_below ho hb⟩, h4, h5, Nat.le_trans h6 hb.size, h7⟩
  obtain ⟨y, hy, hoy, hg⟩ := h2 i r hi hr
  exact ⟨y, hy, own_below hoy hb, hg⟩
theorem SRows.kept {w w' : World} {base B n : Nat} {cells : List Value} {M : Sto} {k : Nat} (h : SRows w base B n cells M k) (hb : Below w.heap.size w w') : SRows w' base B n cells M k := by
  obtain ⟨h1, h2, h3⟩ := h
  refine ⟨own_below h1 hb, fun i r hi hr => ?_, h3⟩
  obtain ⟨y, hy, hoy⟩ := h2 i r hi hr
  exact ⟨y, hy, own_below hoy hb⟩
/-- One more number: 'w' is the world ahead of append, 'w3' the one behind it. -/
theorem SRowsIn.push {w w3 : World} {base B n : Nat} {cells : List Value} {M : Sto} {k K : Nat} {acc : List Int} {x v3 : Value} {z : Int} (h : SRowsIn w base B n cells M k K acc) (hx : cells[k]? = some x)
    (ho : w3.ownsRow K 3 1 v3 (acc ++ [z]).length ((acc ++ [z]).map (Value.int .i64))) (hg : w.grownBy w3 x.ownBlock) :
    SRowsIn (w3.setCell ⟨B, k, none⟩ v3) base B n (cells.set k v3) M k K (acc ++ [z]) := by
  obtain ⟨h1, h2, ⟨y, hy, hoy⟩, h4, h5, h6, h7⟩ := h
  rw [hx] at hy; cases hy
  have hxK : ∀ g, x.ownBlock = some g → K ≤ g := fun g hg => (hoy.lt g hg).1
  have hB : B < w.heap.size := (h1.lt B rfl).2
  have hne : some B ≠ x.ownBlock := fun h => by have := hxK B h.symm; omega
  have h13 : w3.ownsRow base 26 1 (.slice (some ⟨B, 0, none⟩) n n) n cells := h1.kept hg (Or.inr hne)
  have hlen : cells.length = n := by have := h1.1; omega
  refine ⟨(h13.stored k v3).1, fun i r hi hr => ?_, ⟨v3, by rw [List.getElem?_set_self (by omega)], ?_⟩, fun i hi hn => by rw [List.getElem?_set_ne (by omega)]; exact h4 i hi hn, h5, ?_, h7⟩
  · obtain ⟨y, hy, hoy2, hgy⟩ := h2 i r hi hr
    refine ⟨y, by rw [List.getElem?_set_ne (by omega)]; exact hy, ?_, hgy⟩
    have h23 : w3.ownsRow (B + 1) 3 1 y r.length (r.map (Value.int .i64)) := by
      refine hoy2.kept hg ?_
      cases hyb : y.ownBlock with
      | none => exact Or.inl rfl
      | some g =>
        refine Or.inr fun he => ?_
        have := hxK g he.symm
        have := hgy g hyb
        omega
    refine own_at h23 fun g hg2 => Below.heap_setCell _ _ _ _ ?_
    have := (hoy2.lt g hg2).1
    simp only; omega
  · refine own_at ho fun g hg2 => Below.heap_setCell _ _ _ _ ?_
    have := (ho.lt g hg2).1
    simp only; omega
  · have := hg.size; simp; omega
theorem SRows.rarg {w : World} {base B n : Nat} {cells : List Value} {M : Sto} (h : SRows w base B n cells M n) (hM : M.length = n) : RArg w (.slice (some ⟨B, 0, none⟩) n n) M := by
  obtain ⟨h1, h2, _⟩ := h
  have hB : B < w.heap.size := (h1.lt B rfl).2
  have hmx : n ≤ maxLen := by
    rcases h1.2 with ⟨h', _⟩ | ⟨g, cap, cur, h', _, _, hc1, hc2, _⟩
    · cases h'
    · exact Nat.le_trans hc1 hc2
  refine ⟨_, n, by rw [hM], ⟨by omega, hmx⟩, fun i r hr => ?_⟩
  have hi : i < n := by rw [← hM]; exact (List.getElem?_eq_some_iff.1 hr).1
  obtain ⟨x, hx, ho⟩ := h2 i r hi hr
  exact ⟨B, 0, x, rfl, hB, by rw [Nat.zero_add, h1.cellAt i (by omega)]; exact hx, own_ilist ho⟩
end Go.Proofs.YtdjbejlbmaiocagGreatDoor
/-
  What was so in an old world.
-/
namespace Go.Proofs.YtdjbejlbmaiocagGreatDoor
open Go.RowKit

/-- What was so in an old world, and is so still. -/
def Old (N : Nat) (w : World) (P : World → Prop) : Prop := ∃ w0 : World, w0.heap.size ≤ N ∧ P w0 ∧ Below w0.heap.size w0 w
theorem Old.below {N : Nat} {w w' : World} {P : World → Prop} (h : Old N w P) (hb : Below N w w') : Old N w' P := by
  obtain ⟨w0, h1, h2, h3⟩ := h
  exact ⟨w0, h1, h2, h3.trans (hb.mono h1)⟩
theorem bk_cell {w : World} {b : Nat} {cs : Array Value} {t : TypeId} (h : w.heap[b]? = some (.cells cs t)) (i : Nat) (v : Value) (hv : cs[i]? = some v) : w.cell? ⟨b, i, none⟩ = some v := by
  rw [Lib.cell_of_heap h]; exact hv
theorem bounds_set (vals : List Int) (k : Nat) (x : Int) (h : ∀ y ∈ vals, -50 ≤ y ∧ y ≤ 50) (hx : -50 ≤ x ∧ x ≤ 50) : ∀ y ∈ vals.set k x, -50 ≤ y ∧ y ≤ 50 := by
  intro y hy
  rcases List.mem_or_eq_of_mem_set hy with h1 | h1
  · exact h y h1
  · rw [h1]; exact hx
end Go.Proofs.YtdjbejlbmaiocagGreatDoor
/-
  A constraint's points: how they lie in memory while they are sought.
-/
namespace Go.Proofs.YtdjbejlbmaiocagGreatDoor
open Go.RowKit

def ptr (b : Nat) : Value := .pointer (some ⟨b, 0, none⟩)
def ptsCaps (N bs bm bc : Nat) : Array Value := #[.pointer (some ⟨bs, 0, none⟩), .pointer (some ⟨bm, 0, none⟩), .pointer (some ⟨bc, 0, none⟩), .pointer (some ⟨N + 1, 0, none⟩), .pointer (some ⟨N + 2, 0, none⟩), .pointer (some ⟨N + 3, 0, none⟩)]
def u64s (l : List Nat) : List Value := l.map fun (z : Nat) => Value.int .u64 (z : Int)
/-- What the search for points has in memory. -/
def PtsS (N bs bm bc : Nat) (m : Mod) (con : Nat) (vs cs sv : Value) (scope vals : List Int) (out : List Nat) (w : World) : Prop :=
  N + 4 ≤ w.heap.size ∧
  Old N w (fun u => MArg u vs cs m ∧ IArg u sv scope ∧ u.cell? ⟨bs, 0, none⟩ = some sv ∧ u.cell? ⟨bm, 0, none⟩ = some vs ∧ u.cell? ⟨bm, 1, none⟩ = some cs ∧ u.cell? ⟨bc, 0, none⟩ = some (.int .i64 con)) ∧
  w.ownsRow N 3 1 (.slice (some ⟨N, 0, none⟩) vals.length vals.length) vals.length (vals.map (Value.int .i64)) ∧
  w.cell? ⟨N + 1, 0, none⟩ = some (.slice (some ⟨N, 0, none⟩) vals.length vals.length) ∧
  w.cell? ⟨N + 3, 0, none⟩ = some (.func (.func 185) #[] (ptsCaps N bs bm bc)) ∧
  ∃ ov, w.ownsRow N 180 1 (.slice (some ⟨N + 2, 0, none⟩) 1 1) 1 [ov] ∧ w.ownsRow (N + 4) 183 1 ov out.length (u64s out)

section
variable {N bs bm bc con : Nat} {m : Mod} {vs cs sv : Value} {scope vals : List Int} {out : List Nat} {w w' : World}
theorem PtsS.below (h : PtsS N bs bm bc m con vs cs sv scope vals out w) (hb : Below w.heap.size w w') : PtsS N bs bm bc m con vs cs sv scope vals out w' := by
  obtain ⟨h1, h2, h3, h4, h5, ov, h6, h7⟩ := h
  exact ⟨Nat.le_trans h1 hb.size, h2.below (hb.mono (by omega)), own_below h3 hb, (hb.cell (p := ⟨N + 1, 0, none⟩) (by simp only; omega)).trans h4, (hb.cell (p := ⟨N + 3, 0, none⟩) (by simp only; omega)).trans h5, ov, own_below h6 hb, own_below h7 hb⟩
theorem PtsS.old (h : PtsS N bs bm bc m con vs cs sv scope vals out w) : MArg w vs cs m ∧ IArg w sv scope ∧ w.cell? ⟨bs, 0, none⟩ = some sv ∧ w.cell? ⟨bm, 0, none⟩ = some vs ∧ w.cell? ⟨bm, 1, none⟩ = some cs ∧ w.cell? ⟨bc, 0, none⟩ = some (.int .i64 con) ∧
    (bs < w.heap.size ∧ bm < w.heap.size ∧ bc < w.heap.size) := by
  obtain ⟨_, ⟨w0, g0, ⟨g1, g2, g3, g4, g5, g6⟩, gb⟩, _⟩ := h
  have l1 := World.block_lt_of_cell? w0 _ g3
  have l2 := World.block_lt_of_cell? w0 _ g4
  have l3 := World.block_lt_of_cell? w0 _ g6
  have hs := gb.size
  simp only at l1 l2 l3
  exact ⟨MArg.below gb g1, IArg.below gb g2, (gb.cell (p := ⟨bs, 0, none⟩) l1).trans g3, (gb.cell (p := ⟨bm, 0, none⟩) l2).trans g4, (gb.cell (p := ⟨bm, 1, none⟩) l2).trans g5, (gb.cell (p := ⟨bc, 0, none⟩) l3).trans g6, by omega, by omega, by omega⟩
theorem PtsS.vals_arg (h : PtsS N bs bm bc m con vs cs sv scope vals out w) : IArg w (.slice (some ⟨N, 0, none⟩) vals.length vals.length) vals := own_ints h.2.2.1
theorem PtsS.set (h : PtsS N bs bm bc m con vs cs sv scope vals out w) (k : Nat) (x : Int) :
    PtsS N bs bm bc m con vs cs sv scope (vals.set k x) out (w.setCell ⟨N, k, none⟩ (.int .i64 x)) ∧ Below N w (w.setCell ⟨N, k, none⟩ (.int .i64 x)) := by
  obtain ⟨h1, h2, h3, h4, h5, ov, h6, h7⟩ := h
  have hb : Below N w (w.setCell ⟨N, k, none⟩ (.int .i64 x)) := (Below.refl _ _).setCell (show N ≤ N from Nat.le_refl N) _
  have hk : ∀ g, g ≠ N → (w.setCell ⟨N, k, none⟩ (.int .i64 x)).heap[g]? = w.heap[g]? := fun g hg => Below.heap_setCell _ _ _ _ (fun h => hg h)
  refine ⟨⟨by have := hb.size; omega, h2.below hb, ?_, ?_, (World.cell?_of_block (hk _ (by simp only; omega))).trans h5, ov, own_at h6 fun g hg => ?_, own_at h7 fun g hg => ?_⟩, hb⟩
  · rw [List.length_set, List.map_set]
    exact (h3.stored k (.int .i64 x)).1
  · rw [List.length_set]
    exact (World.cell?_of_block (hk _ (by simp only; omega))).trans h4
  · have hgn : g = N + 2 := by injection hg with e; exact e.symm
    exact hk g (by omega)
  · have := (h7.lt g hg).1
    exact hk _ (by omega)
/-- One more point: a new row, and its box is set. -/
theorem PtsS.put {z : Nat} {v3 ov : Value} {w2 : World} (h : PtsS N bs bm bc m con vs cs sv scope vals out w) (ho : w.ownsRow N 180 1 (.slice (some ⟨N + 2, 0, none⟩) 1 1) 1 [ov]) (hr : w.ownsRow (N + 4) 183 1 ov out.length (u64s out))
    (hw : w2.ownsRow (N + 4) 183 1 v3 (out ++ [z]).length (u64s (out ++ [z]))) (hg : w.grownBy w2 ov.ownBlock) :
    PtsS N bs bm bc m con vs cs sv scope vals (out ++ [z]) (w2.setCell ⟨N + 2, 0, none⟩ v3) ∧ Below N w (w2.setCell ⟨N + 2, 0, none⟩ v3) := by
  obtain ⟨h1, h2, h3, h4, h5, _⟩ := h
  have hov : ∀ g, ov.ownBlock = some g → N + 4 ≤ g := fun g hg => (hr.lt g hg).1
  have hb1 : Below N w w2 := (Below.refl _ _).grown hg (by omega) (fun k hk => by have := hov k hk; omega)
  have hb : Below N w (w2.setCell ⟨N + 2, 0, none⟩ v3) := hb1.setCell (by simp only; omega) _
  have hk : ∀ g, g < N + 4 → g ≠ N + 2 → (w2.setCell ⟨N + 2, 0, none⟩ v3).heap[g]? = w.heap[g]? := fun g hgl hgn =>
    (Below.heap_setCell _ _ _ _ (fun h => hgn h)).trans (hg.block g (by omega) (fun he => by have := hov g he.symm; omega))
  refine ⟨⟨by have := hg.size; simp; omega, h2.below hb, own_at h3 fun g hgg => ?_, (World.cell?_of_block (hk _ (by simp only; omega) (by simp only; omega))).trans h4, (World.cell?_of_block (hk _ (by simp only; omega) (by simp only; omega))).trans h5, v3, ?_, own_at hw fun g hgg => ?_⟩, hb⟩
  · have hgn : g = N := by injection hgg with e; exact e.symm
    exact hk g (by omega) (by omega)
  · have h6 : w2.ownsRow N 180 1 (.slice (some ⟨N + 2, 0, none⟩) 1 1) 1 [ov] := ho.kept hg (Or.inr fun he => by have := hov (N + 2) he.symm; omega)
    exact (h6.stored 0 v3).1
  · have := (hw.lt g hgg).1
    exact Below.heap_setCell _ _ _ _ (fun h => by simp only at h; omega)
end

theorem points_same (vs : List MVar) (c : MCon) : ∀ (r a b : List Int) (q : Nat), Agree r a b → pointsN vs c r a q = pointsN vs c r b q
  | [], a, b, q, h => by
    unfold pointsN
    rw [show a = b from List.ext_getElem? fun w => h.2 w (fun v hv => by cases hv)]
  | v :: r, a, b, q, h => by
    unfold pointsN
    congr 1
    funext x
    exact points_same vs c r _ _ _ (h.set x)
theorem points_count (vs : List MVar) (hv : VarsOk vs) (c : MCon) : ∀ (r vals : List Int) (q : Nat), (pointsN vs c r vals q).length ≤ 6 ^ r.length
  | [], vals, q => by
    unfold pointsN
    split <;> simp
  | v :: r, vals, q => by
    unfold pointsN
    have hs : (spanR (varAt vs v.toNat).lo (varAt vs v.toNat).hi).length ≤ 6 := by
      have := hv.2 v.toNat
      unfold sizeV at this
      unfold spanR
      simp only [List.length_map, List.length_range]
      exact this
    have key : ∀ l : List Int, (l.flatMap fun x => pointsN vs c r (vals.set v.toNat x) (q ||| 2 ^ (6 * v.toNat + (x - (varAt vs v.toNat).lo).toNat))).length ≤ l.length * 6 ^ r.length := by
      intro l
      induction l with
      | nil => simp
      | cons a l ih =>
        rw [List.flatMap_cons, List.length_append, List.length_cons]
        have := points_count vs hv c r (vals.set v.toNat a) (q ||| 2 ^ (6 * v.toNat + (a - (varAt vs v.toNat).lo).toNat))
        rw [Nat.add_mul]
        omega
    have h1 := key (spanR (varAt vs v.toNat).lo (varAt vs v.toNat).hi)
    have h2 : (spanR (varAt vs v.toNat).lo (varAt vs v.toNat).hi).length * 6 ^ r.length ≤ 6 * 6 ^ r.length := Nat.mul_le_mul_right _ hs
    rw [List.length_cons, Nat.pow_succ]
    omega
/-- The points of the first values of a variable. -/
def ptsN (vs : List MVar) (c : MCon) (v : Nat) (r vals : List Int) (a : Nat) (lo : Int) (j : Nat) : List Nat :=
  (List.range j).flatMap fun (i : Nat) => pointsN vs c r (vals.set v (lo + (i : Int))) (a ||| 2 ^ (6 * v + i))
theorem ptsN_next (vs : List MVar) (c : MCon) (v : Nat) (r vals : List Int) (a : Nat) (lo : Int) (j : Nat) : ptsN vs c v r vals a lo (j + 1) = ptsN vs c v r vals a lo j ++ pointsN vs c r (vals.set v (lo + (j : Int))) (a ||| 2 ^ (6 * v + j)) := by
  unfold ptsN; rw [List.range_succ, List.flatMap_append]; simp
theorem ptsN_all (vs : List MVar) (c : MCon) (v : Nat) (r vals : List Int) (a : Nat) : ptsN vs c v r vals a (varAt vs v).lo (sizeV (varAt vs v)) = pointsN vs c ((v : Int) :: r) vals a := by
  conv => rhs; unfold pointsN
  unfold ptsN spanR sizeV
  rw [List.flatMap_map, Int.toNat_natCast]
  congr 1
  funext i
  rw [show ((varAt vs v).lo + (i : Int) - (varAt vs v).lo).toNat = i by omega]
theorem ptsN_count (vs : List MVar) (hv : VarsOk vs) (c : MCon) (v : Nat) (r vals : List Int) (a : Nat) (lo : Int) : ∀ j, (ptsN vs c v r vals a lo j).length ≤ j * 6 ^ r.length
  | 0 => by simp [ptsN]
  | j + 1 => by
    rw [ptsN_next, List.length_append, Nat.add_mul]
    have h1 := ptsN_count vs hv c v r vals a lo j
    have h2 := points_count vs hv c r (vals.set v (lo + (j : Int))) (a ||| 2 ^ (6 * v + j))
    omega
theorem points_lt (vs : List MVar) (hv : VarsAll vs) (c : MCon) : ∀ (r vals : List Int) (a : Nat), (∀ v ∈ r, 0 ≤ v ∧ v < (vs.length : Int)) → a < 2 ^ 36 → ∀ p ∈ pointsN vs c r vals a, p < 2 ^ 36
  | [], vals, a, _, ha, p, hp => by
    unfold pointsN at hp
    split at hp
    · rw [List.mem_singleton.1 hp]; exact ha
    · cases hp
  | v :: r, vals, a, hr, ha, p, hp => by
    unfold pointsN at hp
    obtain ⟨x, hx, hp⟩ := List.mem_flatMap.1 hp
    obtain ⟨h1, h2⟩ := (mem_span_iff _ _ _).1 hx
    have hvr := hr v (List.mem_cons_self ..)
    refine points_lt vs hv c r _ _ (fun y hy => hr y (List.mem_cons_of_mem _ hy)) (or_lt36 ha (pow_lt36 vs hv v.toNat _ (by omega) ?_)) p hp
    unfold sizeV
    omega
end Go.Proofs.YtdjbejlbmaiocagGreatDoor
/-
  WALK: package sift: Those, with whatever closure.
-/
namespace Go.Proofs.YtdjbejlbmaiocagGreatDoor
open Go.RowKit

theorem Tryz.infoInts : (Tryz.prog.info? 26).map (fun i => (i.zero, i.size, i.bytes)) = some (some (.slice none 0 0), 1, 24) := by kernel_rfl
theorem Tryz.infoInt : (Tryz.prog.info? 3).map (fun i => (i.zero, i.size, i.bytes)) = some (some (.int .i64 0), 1, 8) := by kernel_rfl
theorem Tryz.underStore : Tryz.prog.underlying 188 = some (.slice 26) := by kernel_rfl

/-- A store is made: all of its rows are nil. -/
theorem make_store (n : Nat) (hn : n ≤ 6) (w : World) : ∃ w', Sem.run Tryz.prog (Instr.makeSlice 188 (.int .i64 (n : Int)) (.int .i64 (n : Int))) w = .ok (.slice (some ⟨w.heap.size, 0, none⟩) n n) w' ∧
    (∀ M, SRows w' w.heap.size w.heap.size n (List.replicate n (.slice none 0 0)) M 0) ∧ Below w.heap.size w w' := by
  obtain ⟨i0, hi, hz0, hz1, hz2⟩ := info_parts Tryz.infoInts
  obtain ⟨w', hrun, hown, hg⟩ := run_makeSlice_full w w.heap.size 188 26 i0 (.slice none 0 0) 1 Tryz.underStore hi hz0 hz1 .i64 .i64 n (by omega) (by rw [hz2]; omega) (by unfold maxLen; omega) (Nat.le_refl _)
  refine ⟨w', hrun, fun M => ⟨?_, fun i r hi => absurd hi (Nat.not_lt_zero _), fun i _ hn => by simp [hn]⟩, (Below.refl _ _).grown hg (Nat.le_refl _) (fun k h => by cases h)⟩
  have : (Value.slice none 0 0).cells = #[.slice none 0 0] := rfl
  rw [this, Nat.mul_one, toList_madeCells_one] at hown
  exact hown

theorem one_laid (w : World) (z : Int) : ∀ (j : Nat) (u : Value), [Value.int .i64 z][j]? = some u → (w.alloc (.cells #[.int .i64 z] 3)).cell? ((⟨w.heap.size, 0, none⟩ : Addr).add j) = some u := by
  intro j u hj
  match j, hj with
  | 0, hj => simp at hj; subst hj; simp [Addr.add]

/-- A closure over a variable and a value that only reads what is old. -/
def ClosS (F : Nat) (caps : Array Value) (s : Sto) (p : Nat → Int → Bool) (w : World) : Prop :=
  (∀ (args : Array Value) (w' : World), Sem.run Tryz.prog (callFunc F args) w' = .ok (.enter F args) w') ∧
  ∀ (k : Nat) (r : List Int) (z : Int) (w' : World), s[k]? = some r → z ∈ r → Below w.heap.size w w' → Calls Tryz.prog F (#[.int .i64 k, .int .i64 z] ++ caps) w' fun e w'' => e = .returned (.bool (p k z)) ∧ Below w'.heap.size w' w''
theorem filt_hit (q : Int → Bool) (r : List Int) (j : Nat) (z : Int) (hz : r[j]? = some z) (h : q z = true) : (r.take (j + 1)).filter q = (r.take j).filter q ++ [z] := by
  rw [List.take_add_one, hz, List.filter_append]; simp [h]
theorem filt_miss (q : Int → Bool) (r : List Int) (j : Nat) (z : Int) (hz : r[j]? = some z) (h : q z = false) : (r.take (j + 1)).filter q = (r.take j).filter q := by
  rw [List.take_add_one, hz, List.filter_append]; simp [h]
theorem filt_short (q : Int → Bool) (r : List Int) (j : Nat) : ((r.take j).filter q).length ≤ r.length :=
  Nat.le_trans (List.length_filter_le _ _) (by rw [List.length_take]; omega)

end Go.Proofs.YtdjbejlbmaiocagGreatDoor
/-
  WALK: package fence: the closure that goes through a constraint's values.
-/
namespace Go.Proofs.YtdjbejlbmaiocagGreatDoor
open Go.RowKit

theorem Tryz.infoPart : (Tryz.prog.info? 183).map (fun i => (i.zero, i.size, i.bytes)) = some (some (.int .u64 0), 1, 8) := by kernel_rfl
theorem Tryz.underParts : Tryz.prog.underlying 180 = some (.slice 183) := by kernel_rfl
theorem part_laid (w : World) (z : Nat) : ∀ (j : Nat) (u : Value), [Value.int .u64 (z : Int)][j]? = some u → (w.alloc (.cells #[.int .u64 (z : Int)] 183)).cell? ((⟨w.heap.size, 0, none⟩ : Addr).add j) = some u := by
  intro j u hj
  match j, hj with
  | 0, hj => simp at hj; subst hj; simp [Addr.add]

set_option maxHeartbeats 3200000 in
set_option maxRecDepth 100000 in
theorem pts_end (N bs bm bc : Nat) (m : Mod) (con : Nat) (c : MCon) (vs cs sv : Value) (scope vals : List Int) (a : Nat) (out : List Nat) (w : World)
    (hc : m.cons[con]? = some c) (hce : conE vals.length c = 0) (hvb : ∀ x ∈ vals, -50 ≤ x ∧ x ≤ 50) (hbud : out.length ≤ 10000000)
    (hT : PtsS N bs bm bc m con vs cs sv scope vals out w) :
    Calls Tryz.prog 185 #[.int .i64 (scope.length : Int), .int .u64 (a : Int), .pointer (some ⟨bs, 0, none⟩), .pointer (some ⟨bm, 0, none⟩), .pointer (some ⟨bc, 0, none⟩), .pointer (some ⟨N + 1, 0, none⟩), .pointer (some ⟨N + 2, 0, none⟩), .pointer (some ⟨N + 3, 0, none⟩)] w fun e w' => e = .returned (.tuple #[]) ∧
      PtsS N bs bm bc m con vs cs sv scope vals (out ++ if holdsC c vals then [a] else []) w' ∧ Below N w w' := by
  obtain ⟨hma, hia, d0, d1, d2, d3, l0, l1, l2⟩ := hT.old
  obtain ⟨⟨av, cv, rfl, _, _⟩, ⟨ac, cc, hcs, hmc, hrc⟩⟩ := hma
  subst hcs
  obtain ⟨asv, csv, hsv, hms, _⟩ := hia
  subst hsv
  obtain ⟨bb, off, vv, vc, vr, vl, hax, hbb, c0, c1, c2, c3, c4, c5, hK⟩ := hrc con c hc
  subst hax
  have HK : Hid (∀ w' : World, Below w.heap.size w w' → KArg w' vv vc vr vl c) := fun w' h => KArg.below h hK
  have HVA : Hid (∀ w' : World, Below w.heap.size w w' → IArg w' (.slice (some ⟨N, 0, none⟩) vals.length vals.length) vals) := fun w' h => IArg.below h hT.vals_arg
  obtain ⟨⟨q1, r1, h1, _, _⟩, ⟨q2, r2, h2, _, _⟩, ⟨q3, r3, h3, _, _⟩, ⟨q4, r4, h4, _, _⟩⟩ := hK
  subst h1; subst h2; subst h3; subst h4
  have hcon : con < m.cons.length := (List.getElem?_eq_some_iff.1 hc).1
  have d4 := hT.2.2.2.1
  have l4 : N + 1 < w.heap.size := by have := hT.1; omega
  have HNL : Hid (N ≤ w.heap.size) := by have := hT.1; exact (by omega : N ≤ w.heap.size)
  have HT : Hid (PtsS N bs bm bc m con (.slice av m.vars.length cv) (.slice (some ⟨bb, off, none⟩) m.cons.length cc) (.slice asv scope.length csv) scope vals out w) := hT
  have HVB : Hid (∀ x ∈ vals, -50 ≤ x ∧ x ≤ 50) := hvb
  have HCE : Hid (conE vals.length c = 0) := hce
  unfold maxLen at hmc hms
  obtain ⟨hmc1, hmc⟩ := hmc
  obtain ⟨hms1, hms⟩ := hms
  obtain ⟨i0, hi, hz0, hz1, hz2⟩ := info_parts Tryz.infoPart
  obtain ⟨O, hO⟩ : ∃ O, (out ++ if holdsC c vals then [a] else []) = O := ⟨_, rfl⟩
  have HO : Hid ((out ++ if holdsC c vals then [a] else []) = O) := hO
  rw [hO]
  clear hT hvb hce hrc hc hO
  go_enter Tryz.func185, Tryz.ntmps185
  go_wp2_with fail
  go_region_held3 (fun w' => Below w.heap.size w w' ∧ w'.cell? ⟨bm, 1, none⟩ = some (.slice (some ⟨bb, off, none⟩) m.cons.length cc) ∧ w'.cell? ⟨bc, 0, none⟩ = some (.int .i64 con) ∧ w'.cell? ⟨bb, off + con * 6, none⟩ = some (.int .i64 c.kind) ∧ w'.cell? ⟨bb, off + con * 6 + 1, none⟩ = some (.slice q1 c.vars.length r1) ∧ w'.cell? ⟨bb, off + con * 6 + 2, none⟩ = some (.slice q2 c.consts.length r2) ∧ w'.cell? ⟨bb, off + con * 6 + 3, none⟩ = some (.int .i64 c.n) ∧ w'.cell? ⟨bb, off + con * 6 + 4, none⟩ = some (.slice q3 c.rows.length r3) ∧ w'.cell? ⟨bb, off + con * 6 + 5, none⟩ = some (.slice q4 c.lits.length r4) ∧ w'.cell? ⟨N + 1, 0, none⟩ = some (.slice (some ⟨N, 0, none⟩) vals.length vals.length))
      ((refine (fun (hB : Below w.heap.size w _) => ⟨hB, (hB.cell (p := ⟨bm, 1, none⟩) l1).trans d2, (hB.cell (p := ⟨bc, 0, none⟩) l2).trans d3, (hB.cell (p := ⟨bb, off + con * 6, none⟩) hbb).trans c0, (hB.cell (p := ⟨bb, off + con * 6 + 1, none⟩) hbb).trans c1, (hB.cell (p := ⟨bb, off + con * 6 + 2, none⟩) hbb).trans c2, (hB.cell (p := ⟨bb, off + con * 6 + 3, none⟩) hbb).trans c3, (hB.cell (p := ⟨bb, off + con * 6 + 4, none⟩) hbb).trans c4, (hB.cell (p := ⟨bb, off + con * 6 + 5, none⟩) hbb).trans c5, (hB.cell (p := ⟨N + 1, 0, none⟩) l4).trans d4⟩ : Below w.heap.size w _ → _) ?_; first | exact (Below.refl _ _).drew | exact hbq))
      (first
        | (go_at_call 54; refine (holds_any c vals _ _ _ _ _ _ (HK.out _ (Below.refl _ _).drew) (HVA.out _ (Below.refl _ _).drew) HCE.out HVB.out).mono ?_; rintro e w1 ⟨rfl, hbr⟩; have hbq : Below w.heap.size w w1 := ⟨hbr.os, hbr.tape, hbr.output, hbr.size, hbr.block⟩))
  have HT1 : Hid (PtsS N bs bm bc m con (.slice av m.vars.length cv) (.slice (some ⟨bb, off, none⟩) m.cons.length cc) (.slice asv scope.length csv) scope vals out w1) := HT.out.below hbq
  have hbN : Below N w w1 := hbq.mono HNL.out
  clear hbr hbq c0 c1 c2 c3 c4 c5 d0 d1 d2 d3 d4 l0 l1 l2 l4 hbb
  cases hq : holdsC c vals
  · have HE : Hid (out = O) := by show _ = _; have := HO.out; rw [hq] at this; simpa using this
    clear hq
    go_wp2
    (try simp only [Exit.inBlock, Exit.then])
    refine bodyPost_ret (results_none rfl _ _ _) rfl ?_
    refine ⟨rfl, ?_, hbN⟩
    rw [← HE.out]
    exact HT1.out
  · have HE : Hid (out ++ [a] = O) := by show _ = _; have := HO.out; rw [hq] at this; simpa using this
    clear hq
    obtain ⟨hsz, _, _, _, _, ov, ho, hr⟩ := HT1.out
    obtain ⟨ax, cx, rfl⟩ := own_form hr
    have hco : w1.cell? ⟨N + 2, 0, none⟩ = some (.slice ax out.length cx) := ho.cellAt 0 (by omega)
    have hlo : N + 2 < w1.heap.size := by omega
    go_wp2_with (at_builtin; refine wpList_append_own _ rfl _ _ 180 rfl (N + 4) 183 i0 (.int .u64 0) 1 8 Tryz.underlying180 hi hz0 hz1 hz2 rfl (by decide) _ _ _ rfl (hr.alloc _) ⟨w1.heap.size, 0, none⟩ 1 1 [.int .u64 (a : Int)] rfl rfl ?c1 ?c2 ?c3 ?c4 ?c5 ?_)
    case c1 => exact part_laid w1 a
    case c2 => intro u hu; rcases List.mem_singleton.1 hu with rfl; rfl
    case c3 => unfold maxLen; omega
    case c4 => omega
    case c5 => simp; omega
    intro v3 w3 hown3 hgrow _
    have hown4 : w3.ownsRow (N + 4) 183 1 v3 (out ++ [a]).length (u64s (out ++ [a])) := by
      unfold u64s
      rw [List.length_append, List.map_append]; exact hown3
    have HPUT := (HT1.out.below (below_alloc _ _)).put (ho.alloc _) (hr.alloc _) hown4 hgrow
    have HP : Hid (PtsS N bs bm bc m con (.slice av m.vars.length cv) (.slice (some ⟨bb, off, none⟩) m.cons.length cc) (.slice asv scope.length csv) scope vals (out ++ [a]) (w3.setCell ⟨N + 2, 0, none⟩ v3)) := HPUT.1
    have HB4 : Hid (Below N w (w3.setCell ⟨N + 2, 0, none⟩ v3)) := hbN.trans (((Below.refl _ _).alloc (by omega) _).trans HPUT.2)
    have ht3 : w3.ownsRow N 180 1 (.slice (some ⟨N + 2, 0, none⟩) 1 1) 1 [.slice ax out.length cx] := (ho.alloc _).kept hgrow (Or.inr (fun h => by have := (hr.lt (N + 2) h.symm).1; omega))
    have hcB : w3.cell? ⟨N + 2, 0, none⟩ = some (.slice ax out.length cx) := ht3.cellAt 0 (by omega)
    have hfB : w3.frozen? ⟨N + 2, 0, none⟩ = false := ht3.frozenAt 0
    obtain ⟨av', cv', rfl⟩ := own_form hown4
    rw [show (out ++ [a]).length = out.length + 1 by simp] at HP HB4
    clear hown3 hgrow hown4 hr ho hco ht3 HPUT
    go_wp2
    (try simp only [Exit.inBlock, Exit.then])
    refine bodyPost_ret (results_none rfl _ _ _) rfl ?_
    exact ⟨rfl, by rw [← HE.out]; exact HP.out, HB4.out⟩
end Go.Proofs.YtdjbejlbmaiocagGreatDoor
/-
  WALK: package fence: the closure that goes through a constraint's values, to its end.
-/
namespace Go.Proofs.YtdjbejlbmaiocagGreatDoor
open Go.RowKit

theorem var_cells {w : World} {b off c n : Nat} {l : List MVar} (h : VArg w (.slice (some ⟨b, off, none⟩) n c) l) (j : Nat) (hj : j < l.length) :
    b < w.heap.size ∧ w.cell? ⟨b, off + j * 3 + 1, none⟩ = some (.int .i64 (varAt l j).lo) ∧ w.cell? ⟨b, off + j * 3 + 2, none⟩ = some (.int .i64 (varAt l j).hi) := by
  obtain ⟨a, c', hv, _, hr⟩ := h
  obtain ⟨_, b', off', ha, hb, _, c1, c2⟩ := hr j _ (var_at hj)
  injection hv with e1 _ _
  rw [ha] at e1
  cases e1
  exact ⟨hb, c1, c2⟩

set_option maxHeartbeats 3200000 in
set_option maxRecDepth 100000 in
theorem pts_any (N bs bm bc : Nat) (m : Mod) (con : Nat) (c : MCon) (vs cs sv : Value) (scope : List Int) (hm : checkM m = 0) (hc : m.cons[con]? = some c) (hsc : ∀ v ∈ scope, 0 ≤ v ∧ v < (m.vars.length : Int)) (hs8 : scope.length ≤ 8) :
    ∀ (rest : List Int) (k : Nat) (vals : List Int) (a : Nat) (out : List Nat) (w : World), scope.drop k = rest → k ≤ scope.length → vals.length = m.vars.length → (∀ x ∈ vals, -50 ≤ x ∧ x ≤ 50) → a < 2 ^ 36 → out.length + 6 ^ rest.length ≤ 10000000 →
      PtsS N bs bm bc m con vs cs sv scope vals out w →
      Calls Tryz.prog 185 #[.int .i64 k, .int .u64 a, .pointer (some ⟨bs, 0, none⟩), .pointer (some ⟨bm, 0, none⟩), .pointer (some ⟨bc, 0, none⟩), .pointer (some ⟨N + 1, 0, none⟩), .pointer (some ⟨N + 2, 0, none⟩), .pointer (some ⟨N + 3, 0, none⟩)] w fun e w' => e = .returned (.tuple #[]) ∧
        ∃ vals', PtsS N bs bm bc m con vs cs sv scope vals' (out ++ pointsN m.vars c rest vals a) w' ∧ vals'.length = m.vars.length ∧ (∀ x ∈ vals', -50 ≤ x ∧ x ≤ 50) ∧ Agree rest vals vals' ∧ Below N w w' := by
  have HSC : Hid (∀ v ∈ scope, 0 ≤ v ∧ v < (m.vars.length : Int)) := hsc
  have HVA : Hid (VarsAll m.vars) := vars_all m hm
  have HCE : Hid (conE m.vars.length c = 0) := con_ok m hm con c hc
  have HC : Hid (m.cons[con]? = some c) := hc
  clear hsc hm hc
  intro rest
  induction rest with
  | nil =>
    intro k vals a out w hdr hk hvl hvb ha hbud hT
    have hks : k = scope.length := by
      have := congrArg List.length hdr
      simp at this
      omega
    subst hks
    refine (pts_end N bs bm bc m con c vs cs sv scope vals a out w HC.out (by rw [hvl]; exact HCE.out) hvb (by simp at hbud; omega) hT).mono ?_
    rintro e w' ⟨rfl, h1, h2⟩
    exact ⟨rfl, vals, h1, hvl, hvb, Agree.refl _ _, h2⟩
  | cons v rest ih =>
    intro k vals a out w hdr hk hvl hvb ha hbud hT
    have hkl : k < scope.length := by
      have := congrArg List.length hdr
      simp at this
      omega
    have hkv : scope[k]? = some v := by
      have h := congrArg (fun q : List Int => q[0]?) hdr
      simpa using h
    have hdr2 : scope.drop (k + 1) = rest := by
      have h := congrArg List.tail hdr
      simpa using h
    obtain ⟨hv0, hv1⟩ := HSC.out v (List.mem_of_getElem? hkv)
    obtain ⟨j, rfl⟩ : ∃ j : Nat, v = (j : Int) := ⟨v.toNat, by omega⟩
    have hjs : j < m.vars.length := by omega
    obtain ⟨hma, hia, d0, d1, _, _, _, _, _⟩ := hT.old
    obtain ⟨⟨av, cv, hvs, hmv, hrv⟩, _⟩ := hma
    obtain ⟨_, b, off, hav, hbv, _, f1, f2⟩ := hrv j _ (var_at hjs)
    subst hav
    subst hvs
    obtain ⟨asv, csv, hsv, hms, hscell⟩ := hia
    obtain ⟨b2, o2, has, hb2, e0⟩ := hscell k _ hkv
    subst has
    subst hsv
    unfold maxLen at hms hmv
    obtain ⟨hms1, hms⟩ := hms
    obtain ⟨hmv1, hmv⟩ := hmv
    obtain ⟨lo, hlo⟩ : ∃ lo, (varAt m.vars j).lo = lo := ⟨_, rfl⟩
    obtain ⟨hi, hhi⟩ : ∃ hi, (varAt m.vars j).hi = hi := ⟨_, rfl⟩
    obtain ⟨n, hn⟩ : ∃ n, sizeV (varAt m.vars j) = n := ⟨_, rfl⟩
    have HLO : Hid ((varAt m.vars j).lo = lo) := hlo
    have HHI : Hid ((varAt m.vars j).hi = hi) := hhi
    have hbn := HVA.out.2 j hjs
    have hn6 : n ≤ 6 := by rw [← hn]; exact HVA.out.1.2 j
    have hnn : (n : Int) = hi + 1 - lo := by rw [← hn, ← hlo, ← hhi]; unfold sizeV; omega
    rw [hlo] at f1 hbn
    rw [hhi] at f2 hbn
    have H6 : Hid (m.vars.length ≤ 6) := HVA.out.1.1
    have HT : Hid (PtsS N bs bm bc m con (.slice (some ⟨b, off, none⟩) m.vars.length cv) cs (.slice (some ⟨b2, o2, none⟩) scope.length csv) scope vals out w) := hT
    have HVB : Hid (∀ x ∈ vals, -50 ≤ x ∧ x ≤ 50) := hvb
    have HVL : Hid (vals.length = m.vars.length) := hvl
    have HA : Hid (a < 2 ^ 36) := ha
    have HALL : Hid (ptsN m.vars c j rest vals a lo n = pointsN m.vars c ((j : Int) :: rest) vals a) := by show _ = _; rw [← hlo, ← hn]; exact ptsN_all m.vars c j rest vals a
    obtain ⟨X, hX⟩ : ∃ X, 6 ^ rest.length = X := ⟨_, rfl⟩
    have hbud2 : out.length + 6 * X ≤ 10000000 := by
      rw [List.length_cons, Nat.pow_succ] at hbud
      omega
    have HCNT : Hid (∀ jj, (ptsN m.vars c j rest vals a lo jj).length ≤ jj * X) := fun jj => by rw [← hX]; exact ptsN_count m.vars HVA.out.1 c j rest vals a lo jj
    have HIH : Hid (∀ (vals : List Int) (a : Nat) (out : List Nat) (w : World), vals.length = m.vars.length → (∀ x ∈ vals, -50 ≤ x ∧ x ≤ 50) → a < 2 ^ 36 → out.length + X ≤ 10000000 →
      PtsS N bs bm bc m con (.slice (some ⟨b, off, none⟩) m.vars.length cv) cs (.slice (some ⟨b2, o2, none⟩) scope.length csv) scope vals out w →
      Calls Tryz.prog 185 #[.int .i64 ((k : Int) + 1), .int .u64 a, .pointer (some ⟨bs, 0, none⟩), .pointer (some ⟨bm, 0, none⟩), .pointer (some ⟨bc, 0, none⟩), .pointer (some ⟨N + 1, 0, none⟩), .pointer (some ⟨N + 2, 0, none⟩), .pointer (some ⟨N + 3, 0, none⟩)] w fun e w' => e = .returned (.tuple #[]) ∧
        ∃ vals', PtsS N bs bm bc m con (.slice (some ⟨b, off, none⟩) m.vars.length cv) cs (.slice (some ⟨b2, o2, none⟩) scope.length csv) scope vals' (out ++ pointsN m.vars c rest vals a) w' ∧ vals'.length = m.vars.length ∧ (∀ x ∈ vals', -50 ≤ x ∧ x ≤ 50) ∧ Agree rest vals vals' ∧ Below N w w') := by
      intro vals1 a1 out1 w1 q1 q2 q3 q4 q5
      exact ih (k + 1) vals1 a1 out1 w1 hdr2 (by omega) q1 q2 q3 (by rw [hX]; exact q4) q5
    have HONE : Hid (∀ (jj : Nat) (w' : World), jj < n → VArg w' (.slice (some ⟨b, off, none⟩) m.vars.length cv) m.vars → Calls Tryz.prog 186 #[.slice (some ⟨b, off, none⟩) m.vars.length cv, .int .i64 j, .int .i64 (lo + (jj : Int))] w' fun e w'' => e = .returned (.int .u64 ((2 ^ (6 * j + jj) : Nat) : Int)) ∧ w'' = w') := by
      intro jj w' hjj hva'
      have h1 := one_any m.vars HVA.out.1 j (lo + (jj : Int)) _ w' hva' hjs (by rw [HLO.out]; omega) (by rw [HHI.out]; omega) (by rw [HLO.out, HHI.out]; omega)
      rw [HLO.out, show (lo + (jj : Int) - lo).toNat = jj by omega] at h1
      exact h1
    have HPOW : Hid (∀ jj, jj < n → 2 ^ (6 * j + jj) < 2 ^ 36) := fun jj hjj => pow_lt36 m.vars HVA.out j jj hjs (by omega)
    have g0 : ((k : Int) == (scope.length : Int)) = false := by simp; omega
    have hlt8 : k < 8 := by omega
    clear hT hvb hdr hvl hbud hrv hscell ih hX hdr2 hkv hv0 hv1 hlo hhi hn ha
    go_enter Tryz.func185, Tryz.ntmps185
    go_wp2_with fail
    clear d0 d1 e0 f1 f2
    go_loopw [11] (fun i wr => ∃ (jj : Nat) (vals' : List Int), jj ≤ n ∧ i = .int .i64 (lo + (jj : Int)) ∧ PtsS N bs bm bc m con (.slice (some ⟨b, off, none⟩) m.vars.length cv) cs (.slice (some ⟨b2, o2, none⟩) scope.length csv) scope vals' (out ++ ptsN m.vars c j rest vals a lo jj) wr ∧ Hid (vals'.length = m.vars.length ∧ (∀ x ∈ vals', -50 ≤ x ∧ x ≤ 50) ∧ Agree ((j : Int) :: rest) vals vals') ∧ Below N w wr) (fun i _ => (hi + 1 - intOf i).toNat)
    case atStart => exact ⟨0, vals, by omega, by simp, by simpa [ptsN] using HT.out, ⟨HVL.out, HVB.out, Agree.refl _ _⟩, Below.refl _ _⟩
    case round =>
      obtain ⟨jj, vals', hjj, rfl, hTr, hH, hbw⟩ := hrel
      have HTR : Hid (PtsS N bs bm bc m con (.slice (some ⟨b, off, none⟩) m.vars.length cv) cs (.slice (some ⟨b2, o2, none⟩) scope.length csv) scope vals' (out ++ ptsN m.vars c j rest vals a lo jj) wr) := hTr
      have HBW : Hid (Below N w wr) := hbw
      clear hTr hbw
      obtain ⟨hma, _, _, d1, _, _, _, lm, _⟩ := HTR.out.old
      obtain ⟨lb, f1, f2⟩ := var_cells hma.1 j hjs
      rw [HLO.out] at f1
      rw [HHI.out] at f2
      clear hma
      by_cases hlt : jj < n
      · have hle : lo + (jj : Int) ≤ hi := by omega
        have hjv : j < vals'.length := by rw [hH.out.1]; exact hjs
        have d4 := HTR.out.2.2.2.1
        have HOW := HTR.out.2.2.1
        have hNl : N + 4 ≤ wr.heap.size := HTR.out.1
        obtain ⟨y, hy⟩ : ∃ y, vals'[j]? = some y := ⟨vals'[j], by simp [hjv]⟩
        have cN : wr.cell? ⟨N, j, none⟩ = some (.int .i64 y) := by rw [HOW.cellAt j (by omega), List.getElem?_map, hy]; rfl
        have zN := HOW.frozenAt j
        have HSET := HTR.out.set j (lo + (jj : Int))
        have hxb : -50 ≤ lo + (jj : Int) ∧ lo + (jj : Int) ≤ 50 := by omega
        have HST : Hid (PtsS N bs bm bc m con (.slice (some ⟨b, off, none⟩) m.vars.length cv) cs (.slice (some ⟨b2, o2, none⟩) scope.length csv) scope (vals'.set j (lo + (jj : Int))) (out ++ ptsN m.vars c j rest vals a lo jj) (wr.setCell ⟨N, j, none⟩ (.int .i64 (lo + (jj : Int))))) := HSET.1
        have HSB : Hid (Below N w (wr.setCell ⟨N, j, none⟩ (.int .i64 (lo + (jj : Int))))) := HBW.out.trans HSET.2
        have HV1 : Hid ((vals'.set j (lo + (jj : Int))).length = m.vars.length) := by show _ = _; rw [List.length_set]; exact hH.out.1
        have HV2 : Hid (∀ y ∈ vals'.set j (lo + (jj : Int)), -50 ≤ y ∧ y ≤ 50) := bounds_set _ _ _ hH.out.2.1 hxb
        have HBU : Hid ((out ++ ptsN m.vars c j rest vals a lo jj).length + X ≤ 10000000) := by
          have h1 := HCNT.out jj
          have h2 : jj * X ≤ 5 * X := Nat.mul_le_mul_right _ (by omega)
          show _ ≤ _
          rw [List.length_append]
          omega
        have HNX : Hid (ptsN m.vars c j rest vals a lo (jj + 1) = ptsN m.vars c j rest vals a lo jj ++ pointsN m.vars c rest (vals'.set j (lo + (jj : Int))) (a ||| 2 ^ (6 * j + jj))) := by
          show _ = _
          rw [ptsN_next]
          congr 1
          have h := (hH.out.2.2).set (lo + (jj : Int))
          exact points_same m.vars c rest _ _ _ h
        have HAG : Hid (Agree ((j : Int) :: rest) vals (vals'.set j (lo + (jj : Int)))) := (hH.out.2.2).trans (Agree.of_set rest vals' (j : Int) (lo + (jj : Int)))
        have hp36 := HPOW.out jj hlt
        obtain ⟨t, ht⟩ : ∃ t, 2 ^ (6 * j + jj) = t := ⟨_, rfl⟩
        have HO1 := HONE.out jj
        rw [ht] at hp36 HNX HO1
        have HON : Hid (∀ (w' : World), VArg w' (.slice (some ⟨b, off, none⟩) m.vars.length cv) m.vars → Calls Tryz.prog 186 #[.slice (some ⟨b, off, none⟩) m.vars.length cv, .int .i64 j, .int .i64 (lo + (jj : Int))] w' fun e w'' => e = .returned (.int .u64 (t : Int)) ∧ w'' = w') := fun w' h => HO1 w' hlt h
        have hor := bits_or_u64_nat a t (by have := HA.out; omega) (by omega)
        obtain ⟨a2, ha2⟩ : ∃ a2, a ||| t = a2 := ⟨_, rfl⟩
        have HA2 : Hid (a2 < 2 ^ 36) := by rw [← ha2]; exact or_lt36 HA.out hp36
        rw [ha2] at hor HNX
        clear hy HOW HSET hH hxb ht HO1 hp36 ha2
        go_wp2_with fail
        obtain ⟨W2, hW2⟩ : ∃ W2, wr.setCell ⟨N, j, none⟩ (.int .i64 (lo + (jj : Int))) = W2 := ⟨_, rfl⟩
        rw [hW2] at HST HSB ⊢
        clear hW2 d1 f1 f2 d4 cN zN lm lb hNl
        obtain ⟨hma, _, _, d1, _, _, _, lm, _⟩ := HST.out.old
        have d5 := HST.out.2.2.2.2.1
        unfold ptsCaps at d5
        have HMV : Hid (VArg W2.drew (.slice (some ⟨b, off, none⟩) m.vars.length cv) m.vars) := VArg.below (Below.refl _ _).drew hma.1
        have HSTD : Hid (PtsS N bs bm bc m con (.slice (some ⟨b, off, none⟩) m.vars.length cv) cs (.slice (some ⟨b2, o2, none⟩) scope.length csv) scope (vals'.set j (lo + (jj : Int))) (out ++ ptsN m.vars c j rest vals a lo jj) W2.drew) := HST.out.below (Below.refl _ _).drew
        clear hma
        have hwk : IntKind.i64.wrap ((k : Int) + 1) = (k : Int) + 1 := by simp [IntKind.wrap, IntKind.signed, IntKind.bits]; omega
        go_region_held3 (fun w' => w'.cell? ⟨N + 3, 0, none⟩ = some (.func (.func 185) #[] #[.pointer (some ⟨bs, 0, none⟩), .pointer (some ⟨bm, 0, none⟩), .pointer (some ⟨bc, 0, none⟩), .pointer (some ⟨N + 1, 0, none⟩), .pointer (some ⟨N + 2, 0, none⟩), .pointer (some ⟨N + 3, 0, none⟩)]) ∧ w'.cell? ⟨bm, 0, none⟩ = some (.slice (some ⟨b, off, none⟩) m.vars.length cv))
          (first | exact ⟨d5, d1⟩ | assumption | exact ⟨hd5, hd1⟩)
          (first
            | (go_at_call 186; refine (HON.out _ HMV.out).mono ?_; rintro e w2 ⟨rfl, rfl⟩)
            | (go_at_call 185; refine (HIH.out _ _ _ _ HV1.out HV2.out HA2.out HBU.out HSTD.out).mono ?_; rintro e w2 ⟨rfl, v2, hT2, hl2, hb2', hag2, hbN2⟩; have hd5 := hT2.2.2.2.2.1; unfold ptsCaps at hd5; have hd1 := hT2.old.2.2.2.1))
        · have HT2 : Hid (PtsS N bs bm bc m con (.slice (some ⟨b, off, none⟩) m.vars.length cv) cs (.slice (some ⟨b2, o2, none⟩) scope.length csv) scope v2 (out ++ ptsN m.vars c j rest vals a lo (jj + 1)) w2) := by
            rw [HNX.out, ← List.append_assoc]; exact hT2
          have HH2 : Hid (v2.length = m.vars.length ∧ (∀ x ∈ v2, -50 ≤ x ∧ x ≤ 50) ∧ Agree ((j : Int) :: rest) vals v2) := ⟨hl2, hb2', HAG.out.trans (Agree.cons _ hag2)⟩
          have HB2 : Hid (Below N w w2) := HSB.out.trans ((Below.refl _ _).drew.trans hbN2)
          clear hT2 hl2 hb2' hag2 hbN2 hd5 hd1
          go_wp2
          go_roundw
          case rel => exact ⟨jj + 1, v2, by omega, by go_num, HT2.out, HH2, HB2.out⟩
          case measure => simp [intOf]; omega
      · have hle : ¬ (lo + (jj : Int) ≤ hi) := by omega
        have hje : jj = n := by omega
        have HF : Hid (PtsS N bs bm bc m con (.slice (some ⟨b, off, none⟩) m.vars.length cv) cs (.slice (some ⟨b2, o2, none⟩) scope.length csv) scope vals' (out ++ pointsN m.vars c ((j : Int) :: rest) vals a) wr) := by
          have h := HTR.out
          rw [hje, HALL.out] at h
          exact h
        clear hje
        go_wp2
        go_end0
        exact ⟨rfl, vals', HF.out, hH.out.1, hH.out.2.1, hH.out.2.2, HBW.out⟩
end Go.Proofs.YtdjbejlbmaiocagGreatDoor
/-
  WALK: package fence: Points.
-/
namespace Go.Proofs.YtdjbejlbmaiocagGreatDoor
open Go.RowKit

theorem own_parts {w : World} {base : Nat} {v : Value} {l : List Nat} (h : w.ownsRow base 183 1 v l.length (u64s l)) (hl : ∀ z ∈ l, z < 2 ^ 36) : PArg w v l := by
  rcases h.2 with ⟨rfl, hn⟩ | ⟨g, cap, cur, rfl, hg, hh, hc1, hc2, _, _⟩
  · have : l = [] := List.eq_nil_of_length_eq_zero hn
    subst this
    exact ⟨none, 0, rfl, ⟨Nat.le_refl _, Nat.zero_le _⟩, fun i z hz => by simp at hz⟩
  · refine ⟨_, cap, rfl, ⟨hc1, hc2⟩, fun i z hz => ⟨hl z (List.mem_of_getElem? hz), g, 0, rfl, (Array.getElem?_eq_some_iff.1 hh).1, ?_⟩⟩
    have hi : i < l.length := (List.getElem?_eq_some_iff.1 hz).1
    rw [Nat.zero_add, h.cellAt i (by omega)]
    unfold u64s
    rw [List.getElem?_map, hz]; rfl
theorem scope_short (m : Mod) (hm : checkM m = 0) (j : Nat) (c : MCon) (hc : m.cons[j]? = some c) : (scopeC c).length ≤ 8 := by
  obtain ⟨hn4, hl4, _, _⟩ := many_not c (con_facts _ _ (con_ok m hm j c hc)).2.1
  have h1 := compI_len (sortI (scopeL c))
  rw [sortI_len] at h1
  show (compI (sortI (scopeL c))).length ≤ 8
  have h2 : (scopeL c).length = c.vars.length + c.lits.length := by simp [scopeL]
  omega
theorem Tryz.infoIntF : (Tryz.prog.info? 3).map (fun i => (i.zero, i.size, i.bytes)) = some (some (.int .i64 0), 1, 8) := by kernel_rfl
theorem Tryz.underIntsF : Tryz.prog.underlying 26 = some (.slice 3) := by kernel_rfl
theorem zeros_own (w : World) (n base : Nat) (hn : n ≤ 6) (hb : base ≤ w.heap.size) : (w.alloc (.cells (madeCells #[.int .i64 0] n) 3)).ownsRow base 3 1 (.slice (some ⟨w.heap.size, 0, none⟩) n n) n ((zerosOf n).map (Value.int .i64)) := by
  refine ⟨by simp [zerosOf], Or.inr ⟨w.heap.size, n, _, rfl, hb, heap_alloc_new w _, Nat.le_refl _, by unfold maxLen; omega, ?_, ?_⟩⟩
  · have h := congrArg List.length (toList_madeCells_one (.int .i64 0) n)
    simp at h
    simpa using h
  · rw [toList_madeCells_one]
    simp [zerosOf]

def ptsObjs (N bs bm bc n : Nat) (W : World) : World := (((W.alloc (.cells (madeCells #[.int .i64 0] n) 3)).alloc (.cells #[.slice (some ⟨N, 0, none⟩) n n] 26)).alloc (.cells #[.slice none 0 0] 180)).alloc (.cells #[.func (.func 185) #[] (ptsCaps N bs bm bc)] 231)
theorem pts_new {W : World} {N bs bm bc con n : Nat} {m : Mod} {vs cs sv : Value} {scope : List Int} (hN : W.heap.size = N) (hn : n ≤ 6)
    (hW : MArg W vs cs m ∧ IArg W sv scope ∧ W.cell? ⟨bs, 0, none⟩ = some sv ∧ W.cell? ⟨bm, 0, none⟩ = some vs ∧ W.cell? ⟨bm, 1, none⟩ = some cs ∧ W.cell? ⟨bc, 0, none⟩ = some (.int .i64 con)) :
    PtsS N bs bm bc m con vs cs sv scope (zerosOf n) [] (ptsObjs N bs bm bc n W) ∧ Below N W (ptsObjs N bs bm bc n W) := by
  subst hN
  have hzl : (zerosOf n).length = n := by simp [zerosOf]
  have r1 := zeros_own W n W.heap.size hn (Nat.le_refl _)
  have r3 := World.ownsRow_lit (base := W.heap.size) (e := 180) (size := 1) ((W.alloc (.cells (madeCells #[.int .i64 0] n) 3)).alloc (.cells #[.slice (some ⟨W.heap.size, 0, none⟩) n n] 26)) #[.slice none 0 0] 1 (by simp; omega) (by unfold maxLen; omega) rfl
  have e3 : ((W.alloc (.cells (madeCells #[.int .i64 0] n) 3)).alloc (.cells #[.slice (some ⟨W.heap.size, 0, none⟩) n n] 26)).heap.size = W.heap.size + 2 := by simp
  rw [e3] at r3
  have hsz : (ptsObjs W.heap.size bs bm bc n W).heap.size = W.heap.size + 4 := by unfold ptsObjs; simp
  have hb : Below W.heap.size W (ptsObjs W.heap.size bs bm bc n W) := (((below_alloc _ _).alloc (by simp) _).alloc (by simp; omega) _).alloc (by simp; omega) _
  have q1 : (ptsObjs W.heap.size bs bm bc n W).ownsRow W.heap.size 3 1 (.slice (some ⟨W.heap.size, 0, none⟩) n n) n ((zerosOf n).map (Value.int .i64)) := ((r1.alloc _).alloc _).alloc _
  refine ⟨⟨by omega, ⟨W, Nat.le_refl _, hW, hb⟩, by rw [hzl]; exact q1, ?_, ?_, .slice none 0 0, r3.alloc _, World.ownsRow_nil _ _ _ _⟩, hb⟩
  · rw [hzl]
    unfold ptsObjs
    rw [World.cell?_alloc_past _ _ _ (by simp), World.cell?_alloc_past _ _ _ (by simp)]
    exact World.cell?_alloc_at _ _ _ 0 (by simp)
  · unfold ptsObjs
    exact World.cell?_alloc_at _ _ _ 0 (by simp)

set_option maxHeartbeats 1600000 in
set_option maxRecDepth 100000 in
theorem points_own (m : Mod) (con : Nat) (c : MCon) (vs cs : Value) (w : World) (hm : checkM m = 0) (hc : m.cons[con]? = some c) (hma : MArg w vs cs m) :
    Calls Tryz.prog 127 #[modV vs cs m, .int .i64 con] w fun e w' => ∃ x, e = .returned x ∧ w'.ownsRow w.heap.size 183 1 x (pointsP m.vars c).length (u64s (pointsP m.vars c)) ∧ Below w.heap.size w w' := by
  have HMA : Hid (∀ w', Below w.heap.size w w' → MArg w' vs cs m) := fun w' h => MArg.below h hma
  have HM : Hid (checkM m = 0) := hm
  have HC : Hid (m.cons[con]? = some c) := hc
  have H6 : m.vars.length ≤ 6 := (checkM_vars m hm).2.1
  have hcon : con < m.cons.length := (List.getElem?_eq_some_iff.1 hc).1
  have HSC : Hid (scopeA m (con : Int) = (scopeC c, 0)) := by
    show _ = _
    have h1 : conCheck m (con : Int) = 0 := by unfold conCheck; rw [if_pos hm, if_neg (by omega)]
    unfold scopeA
    rw [if_pos h1, Int.toNat_natCast, List.getD_eq_getElem?_getD, hc]; rfl
  have hmk := run_make_row' (P := Tryz.prog) 26 3 (.int .i64 0) 8 Tryz.underIntsF Tryz.infoIntF rfl .i64 .i64 m.vars.length (by omega) (by omega)
  obtain ⟨⟨a1, c1, rfl, hm1, _⟩, ⟨a2, c2, rfl, _, _⟩⟩ := hma
  unfold maxLen at hm1
  obtain ⟨hm11, hm1⟩ := hm1
  unfold modV
  clear hm hc
  go_enter Tryz.func127, Tryz.ntmps127
  go_wp2_with fail
  refine (mscope_any m (con : Int) _ _ _ (HMA.out _ ((below_alloc _ _).alloc (by simp) _))).mono ?_
  rw [HSC.out]
  rintro e w1 ⟨x, rfl, hx, hb1⟩
  have hbw : Below w.heap.size w w1 := ((below_alloc _ _).alloc (by simp) _).trans (hb1.mono (by simp; omega))
  have hq0 : w1.cell? ⟨w.heap.size, 0, none⟩ = some (.slice a1 m.vars.length c1) := (hb1.cell (by simp; omega)).trans ((World.cell?_alloc_past _ _ _ (by simp)).trans (World.cell?_alloc_at _ _ _ 0 (by simp)))
  have hq1 : w1.cell? ⟨w.heap.size, 1, none⟩ = some (.slice a2 m.cons.length c2) := (hb1.cell (by simp; omega)).trans ((World.cell?_alloc_past _ _ _ (by simp)).trans (World.cell?_alloc_at _ _ _ 1 (by simp)))
  have hq2 : w1.cell? ⟨w.heap.size + 1, 0, none⟩ = some (.int .i64 con) := (hb1.cell (by simp)).trans (World.cell?_alloc_at _ _ _ 0 (by simp))
  have hl0 : w.heap.size + 1 < w1.heap.size := by have := hb1.size; simp at this; omega
  have hl1 : w.heap.size < w1.heap.size := by omega
  have HX : Hid (IArg w1 x (scopeC c)) := hx
  obtain ⟨ax, cx, rfl, _, _⟩ := hx
  have HBW : Hid (Below w.heap.size w w1) := hbw
  have HSCI : Hid (∀ v ∈ scopeC c, 0 ≤ v ∧ v < (m.vars.length : Int)) := (scope_in m HM.out con c HC.out).1
  have HS8 : Hid ((scopeC c).length ≤ 8) := scope_short m HM.out con c HC.out
  have HPN : Hid (_) := pts_new (W := w1.alloc (.cells #[.slice ax (scopeC c).length cx] 26)) (N := w1.heap.size + 1) (bs := w1.heap.size) (bm := w.heap.size) (bc := w.heap.size + 1) (con := con) (n := m.vars.length) (m := m) (scope := scopeC c) (by simp) H6
    ⟨HMA.out _ (HBW.out.alloc HBW.out.size _), IArg.below (below_alloc _ _) HX.out, World.cell?_alloc_at _ _ _ 0 (by simp), (World.cell?_alloc_past _ _ _ hl1).trans hq0, (World.cell?_alloc_past _ _ _ hl1).trans hq1, (World.cell?_alloc_past _ _ _ hl0).trans hq2⟩
  clear hb1 hbw
  go_wp2_with fail
  have HB5 : Hid (Below w.heap.size w (ptsObjs (w1.heap.size + 1) w1.heap.size w.heap.size (w.heap.size + 1) m.vars.length (w1.alloc (.cells #[.slice ax (scopeC c).length cx] 26)))) := (HBW.out.alloc HBW.out.size _).trans (HPN.out.2.mono (by have := HBW.out.size; omega))
  have HZL : Hid ((zerosOf m.vars.length).length = m.vars.length) := by show _ = _; simp [zerosOf]
  refine (pts_any (w1.heap.size + 1) w1.heap.size w.heap.size (w.heap.size + 1) m con c _ _ _ (scopeC c) HM.out HC.out HSCI.out HS8.out (scopeC c) 0 (zerosOf m.vars.length) 0 [] (ptsObjs (w1.heap.size + 1) w1.heap.size w.heap.size (w.heap.size + 1) m.vars.length (w1.alloc (.cells #[.slice ax (scopeC c).length cx] 26))) rfl (Nat.zero_le _) HZL.out (fun x hx => by have := List.eq_of_mem_replicate hx; omega) (by omega) ?_ HPN.out.1).mono ?_
  · have h2 : 6 ^ (scopeC c).length ≤ 6 ^ 8 := Nat.pow_le_pow_right (by omega) HS8.out
    simp only [List.length_nil]
    omega
  rintro e w2 ⟨rfl, vals', hT2, _, _, _, hb2⟩
  have HB6 : Hid (Below w.heap.size w w2) := HB5.out.trans (hb2.mono (by have := HBW.out.size; omega))
  obtain ⟨hsz, _, _, _, _, ov, ho, hr⟩ := hT2
  have HPA : Hid (w2.ownsRow w.heap.size 183 1 ov (pointsP m.vars c).length (u64s (pointsP m.vars c))) := World.ownsRow.mono hr (by have := HBW.out.size; omega)
  obtain ⟨ao, co, rfl⟩ := own_form hr
  have hco : w2.cell? ⟨w1.heap.size + 1 + 1 + 1, 0, none⟩ = some (.slice ao ([] ++ pointsN m.vars c (scopeC c) (zerosOf m.vars.length) 0).length co) := ho.cellAt 0 (by omega)
  have hlo : w1.heap.size + 1 + 1 + 1 < w2.heap.size := by omega
  clear hr ho hb2 HPN
  go_wp2
  go_ret
  exact ⟨_, rfl, HPA.out, HB6.out⟩
theorem pointsP_lt (m : Mod) (hm : checkM m = 0) (j : Nat) (c : MCon) (hc : m.cons[j]? = some c) : ∀ z ∈ pointsP m.vars c, z < 2 ^ 36 := points_lt m.vars (vars_all m hm) c _ _ _ (scope_in m hm j c hc).1 (by omega)
theorem points_any (m : Mod) (con : Nat) (c : MCon) (vs cs : Value) (w : World) (hm : checkM m = 0) (hc : m.cons[con]? = some c) (hma : MArg w vs cs m) :
    Calls Tryz.prog 127 #[modV vs cs m, .int .i64 con] w fun e w' => ∃ x, e = .returned x ∧ PArg w' x (pointsP m.vars c) ∧ Below w.heap.size w w' :=
  (points_own m con c vs cs w hm hc hma).mono fun _ _ ⟨x, h1, h2, h3⟩ => ⟨x, h1, own_parts h2 (pointsP_lt m hm con c hc), h3⟩
end Go.Proofs.YtdjbejlbmaiocagGreatDoor
/-
  WALKS: package fence: Says.
-/
namespace Go.Proofs.YtdjbejlbmaiocagGreatDoor
open Go.RowKit

theorem fen_call {w2 Y w3 : World} {A : Prop} (h : Below w2.heap.size w2 Y ∧ A) (hb : Below Y.heap.size Y w3) : Below w2.heap.size w2 w3 := h.1.trans (hb.mono h.1.size)

set_option maxHeartbeats 1600000 in
set_option maxRecDepth 100000 in
theorem says_any (vs : List MVar) (hva : VarsAll vs) (pts : List Nat) (h : Nat) (hh : h < 2 ^ 36) (sv pv : Value) (w : World) (hv : VArg w sv vs) (hp : PArg w pv pts) :
    Calls Tryz.prog 126 #[sv, pv, .int .u64 h] w fun e w' => e = .returned (.bool (saysP vs pts h)) ∧ Below w.heap.size w w' := by
  have HV : Hid (∀ w', Below w.heap.size w w' → VArg w' sv vs) := fun w' h => VArg.below h hv
  have HP : Hid (∀ w', Below w.heap.size w w' → PArg w' pv pts) := fun w' h => PArg.below h hp
  have HVO : Hid (VarsAll vs) := hva
  have HH : Hid (h < 2 ^ 36) := hh
  have H6 : Hid (vs.length ≤ 6) := hva.1.1
  have HW36 : Hid (wholeP vs < 2 ^ 36) := of_lt vs hva.1 _
  obtain ⟨q, hq⟩ : ∃ q, wholeP vs = q := ⟨_, rfl⟩
  obtain ⟨r, hr⟩ : ∃ r, lessN (wholeP vs) h = r := ⟨_, rfl⟩
  have HR36 : Hid (r < 2 ^ 36) := by rw [← hr]; exact less_lt 36 _ _ HW36.out
  have hbits := bits_andNot_u64 (wholeP vs) h (by have := HW36.out; omega) (by omega)
  rw [hr, hq] at hbits
  have HQ : Hid (wholeP vs = q) := hq
  have HS : Hid (saysP vs pts h = (lackP vs.length r || !pts.any (stayP h))) := by show _ = _; unfold saysP; rw [hr]
  rw [HS.out]
  have HWH : Hid (∀ w', Below w.heap.size w w' → Calls Tryz.prog 183 #[sv] w' fun e w'' => e = .returned (.int .u64 (q : Int)) ∧ Below w'.heap.size w' w'') := fun w' hb => by
    rw [← HQ.out]; exact whole_any vs HVO.out sv w' (HV.out w' hb)
  have HLA : Hid (∀ w', Below w.heap.size w w' → Calls Tryz.prog 182 #[sv, .int .u64 r] w' fun e w'' => e = .returned (.bool (lackP vs.length r)) ∧ Below w'.heap.size w' w'') := fun w' hb =>
    (lacking_any vs H6.out r HR36.out sv w' (HV.out w' hb)).mono fun e w'' ⟨h1, h2⟩ => ⟨h1, by rw [h2]; exact Below.refl _ _⟩
  have HCO : Hid (∀ w', Below w.heap.size w w' → ∀ b1, w'.cell? ⟨b1, 0, none⟩ = some (.int .u64 h) → Calls Tryz.prog 184 #[pv, .func (.func 181) #[] #[.pointer (some ⟨b1, 0, none⟩)]] w' fun e w'' => e = .returned (.bool (pts.any (stayP h))) ∧ Below w'.heap.size w' w'') := fun w' hb b1 hc =>
    (containsf_parts h HH.out b1 pts pv w' (HP.out w' hb) hc).mono fun e w'' ⟨h1, h2⟩ => ⟨h1, by rw [h2]; exact Below.refl _ _⟩
  obtain ⟨a, c, rfl, _, _⟩ := hv
  obtain ⟨a2, c2, rfl, _, _⟩ := hp
  clear hva hh hq hr
  obtain ⟨L, hL⟩ : ∃ L, lackP vs.length r = L := ⟨_, rfl⟩
  obtain ⟨S, hS⟩ : ∃ S, pts.any (stayP h) = S := ⟨_, rfl⟩
  rw [hL] at HLA ⊢
  rw [hS] at HCO ⊢
  clear hL hS HS
  go_enter Tryz.func126, Tryz.ntmps126
  go_wp2_with fail
  have HB0 : Hid (Below w.heap.size w (w.alloc (.cells #[.int .u64 h] 183))) := below_alloc _ _
  have k0 : (w.alloc (.cells #[.int .u64 h] 183)).cell? ⟨w.heap.size, 0, none⟩ = some (.int .u64 h) := World.cell?_alloc_at _ _ _ 0 (by simp)
  have n0 : w.heap.size < (w.alloc (.cells #[.int .u64 h] 183)).heap.size := by simp
  obtain ⟨W, hW⟩ : ∃ W, w.alloc (.cells #[.int .u64 h] 183) = W := ⟨_, rfl⟩
  rw [hW] at HB0 k0 n0 ⊢
  clear hW
  have HT : Hid (∀ Y, Below W.heap.size W Y → Below w.heap.size w Y) := fun Y hY => HB0.out.trans (hY.mono HB0.out.size)
  cases L
  · go_region_held3 (fun w' => Below W.heap.size W w' ∧ w'.cell? ⟨w.heap.size, 0, none⟩ = some (.int .u64 h))
      ((refine (fun (hB : Below W.heap.size W _) => ⟨hB, (hB.cell (p := ⟨w.heap.size, 0, none⟩) n0).trans k0⟩ : Below W.heap.size W _ → _) ?_; first | exact (Below.refl _ _).drew | exact fen_call (by assumption) hbq))
      (first
        | (go_at_call 183; refine (HWH.out _ (HT.out _ (show Below W.heap.size W _ ∧ _ by assumption).1)).mono ?_; rintro e w3 ⟨rfl, hbq⟩; have hB3 := fen_call (by assumption) hbq)
        | (go_at_call 182; refine (HLA.out _ (HT.out _ (show Below W.heap.size W _ ∧ _ by assumption).1)).mono ?_; rintro e w3 ⟨rfl, hbq⟩; have hB3 := fen_call (by assumption) hbq)
        | (go_at_call 184; refine (HCO.out _ (HT.out _ (show Below W.heap.size W _ ∧ _ by assumption).1) _ (show Below W.heap.size W _ ∧ _ by assumption).2).mono ?_; rintro e w3 ⟨rfl, hbq⟩; have hB3 := fen_call (by assumption) hbq))
    have HB3 : Hid (Below w.heap.size w w3) := HT.out _ hB3
    go_wp2
    go_ret
    exact ⟨ret_bool (by simp), HB3.out⟩
  · have HS : Hid (∀ Y, Below W.heap.size W Y → Below W.heap.size W Y ∧ Y.cell? ⟨w.heap.size, 0, none⟩ = some (.int .u64 h)) := fun Y hY => ⟨hY, (hY.cell (p := ⟨w.heap.size, 0, none⟩) n0).trans k0⟩
    have hHeld := HS.out W.drew (Below.refl _ _).drew
    refine wp_region_held_drew (S := fun Y => Below W.heap.size W Y ∧ Y.cell? ⟨w.heap.size, 0, none⟩ = some (.int .u64 h)) (by kernel_rfl) hHeld (fun _ => ?_)
    refine wpAnyH_take (i := 0) (v := ?v0) rfl (by kernel_rfl) (by kernel_rfl) (by kernel_rfl) (fun _ _ _ h => h) (Or.inl ⟨by rfl, ?y0⟩) hHeld ?r0
    case y0 => intro wq hSw; obtain ⟨q0, q1⟩ := hSw; go_simp; with_reducible rfl
    refine wpAnyH_take (i := 1) (v := ?v1) rfl (by kernel_rfl) (by kernel_rfl) (by kernel_rfl) (fun _ _ _ h => h) (Or.inl ⟨by rfl, ?y1⟩) hHeld ?r1
    case y1 => intro wq hSw; obtain ⟨q0, q1⟩ := hSw; go_simp; with_reducible rfl
    refine wpAnyH_take (i := 3) (v := ?v3) rfl (by kernel_rfl) (by kernel_rfl) (by kernel_rfl) (fun _ _ _ h => h) (Or.inl ⟨by rfl, ?y3⟩) hHeld ?r3
    case y3 => intro wq hSw; obtain ⟨q0, q1⟩ := hSw; go_simp; with_reducible rfl
    refine wpAnyH_ready (rs := [2]) (by kernel_rfl) (by simp) ?_
    refine AllReadyH.cons rfl (fun K hK => ?_) AllReadyH.nil
    go_simp
    refine (HWH.out _ (HT.out _ hHeld.1)).mono ?_
    rintro e w2 ⟨rfl, hb2⟩
    have hB2 : Below W.heap.size W w2 := hHeld.1.trans hb2
    dsimp only
    have hHeld2 := HS.out w2 hB2
    refine hK.out _ _ hHeld2 (fun _ => ?_)
    clear hK
    refine wpAnyH_take (i := 4) (v := ?v4) rfl (by kernel_rfl) (by kernel_rfl) (by kernel_rfl) (fun _ _ _ h => h) (Or.inl ⟨by rfl, ?y4⟩) hHeld2 ?r4
    case y4 => intro wq hSw; obtain ⟨q0, q1⟩ := hSw; go_simp; with_reducible rfl
    refine wpAnyH_ready (rs := [5]) (by kernel_rfl) (by simp) ?_
    refine AllReadyH.cons rfl (fun K hK => ?_) AllReadyH.nil
    go_simp
    refine (HLA.out _ (HT.out _ hHeld2.1)).mono ?_
    rintro e w3 ⟨rfl, hb3⟩
    have hB3 : Below W.heap.size W w3 := hB2.trans (hb3.mono hB2.size)
    dsimp only
    have hHeld3 := HS.out w3 hB3
    refine hK.out _ _ hHeld3 (fun _ => ?_)
    clear hK
    refine wpAnyH_take (i := 6) (v := ?v6) rfl (by kernel_rfl) (by kernel_rfl) (by kernel_rfl) (fun _ _ _ h => h) (Or.inl ⟨by rfl, ?y6⟩) hHeld3 ?r6
    case y6 => intro wq hSw; obtain ⟨q0, q1⟩ := hSw; go_simp; with_reducible rfl
    refine wpAnyH_take (i := 7) rfl (by kernel_rfl) (by kernel_rfl) (by kernel_rfl) (fun _ _ _ h => h) (Or.inr ⟨by rfl, rfl⟩) hHeld3 ?_
    refine wpAnyH_take (i := 8) rfl (by kernel_rfl) (by kernel_rfl) (by kernel_rfl) (fun _ _ _ h => h) (Or.inr ⟨by rfl, rfl⟩) hHeld3 ?_
    refine wpAnyH_take (i := 9) rfl (by kernel_rfl) (by kernel_rfl) (by kernel_rfl) (fun _ _ _ h => h) (Or.inr ⟨by rfl, rfl⟩) hHeld3 ?_
    refine wpAnyH_take (i := 10) rfl (by kernel_rfl) (by kernel_rfl) (by kernel_rfl) (fun _ _ _ h => h) (Or.inr ⟨by rfl, rfl⟩) hHeld3 ?_
    refine wpAnyH_take (i := 11) (v := ?v11) rfl (by kernel_rfl) (by kernel_rfl) (by kernel_rfl) (fun _ _ _ h => h) (Or.inl ⟨by rfl, ?y11⟩) hHeld3 ?r11
    case y11 => intro wq hSw; obtain ⟨q0, q1⟩ := hSw; go_simp; with_reducible rfl
    refine wpAnyH_take (i := 12) (v := ?v12) rfl (by kernel_rfl) (by kernel_rfl) (by kernel_rfl) (fun _ _ _ h => h) (Or.inl ⟨by rfl, ?y12⟩) hHeld3 ?r12
    case y12 => intro wq hSw; obtain ⟨q0, q1⟩ := hSw; go_simp; with_reducible rfl
    refine wpAnyH_done (by kernel_rfl) ?_ _
    have HB3 : Hid (Below w.heap.size w w3) := HT.out _ hB3
    go_wp2
    go_ret
    exact ⟨ret_bool (by simp), HB3.out⟩
end Go.Proofs.YtdjbejlbmaiocagGreatDoor
/-
  WALKS: math/bits.TrailingZeros64 (the library's look-up); package fence: the field of the first variable that has values.
-/
namespace Go.Proofs.YtdjbejlbmaiocagGreatDoor
open Go.RowKit

/-- The library's table lies in its variable. -/
def TabT (w : World) : Prop := TabAt 1 Lib.deBruijn64tab w
theorem TabT.below {w w' : World} (h : TabT w) (hb : Below w.heap.size w w') : TabT w' := fun j hj => by
  have := h j hj
  exact (hb.cell (World.block_lt_of_cell? w _ this)).trans this

set_option maxHeartbeats 1000000 in
theorem tz64_some (x k idx : Nat) (w : World) (hx0 : ((x : Int) == 0) = false)
    (key : IntKind.u64.wrap (bits BinOp.and IntKind.u64 (x : Int) (IntKind.u64.wrap (-(x : Int))) * 285870213051353865) / 288230376151711744 = (idx : Int))
    (hi : idx < 64) (hk : k < 64) (hcell : w.cell? ⟨1, idx, none⟩ = some (.int .u8 k)) :
    Calls Tryz.prog 258 #[.int .u64 x] w fun e w' => e = .returned (.int .i64 k) ∧ w' = w := by
  go_enter Tryz.func258, Tryz.ntmps258
  go_wp2_with (simp only [key])
  go_ret
  exact ⟨rfl, rfl⟩
theorem tz64_none (w : World) : Calls Tryz.prog 258 #[.int .u64 0] w fun e w' => e = .returned (.int .i64 64) ∧ w' = w := by
  go_enter Tryz.func258, Tryz.ntmps258
  go_wp2
  go_ret
  exact ⟨rfl, rfl⟩
theorem tz64_any (x : Nat) (hx : x < 18446744073709551616) (w : World) (hT : TabT w) :
    Calls Tryz.prog 258 #[.int .u64 x] w fun e w' => e = .returned (.int .i64 (Lib.ctz 64 x)) ∧ w' = w := by
  by_cases hx0 : x = 0
  · subst hx0
    exact tz64_none w
  · obtain ⟨hlow, hk⟩ := Lib.lowest_bit 64 x hx0 hx
    obtain ⟨hi, htab⟩ := Lib.deBruijn64_at _ hk
    have hcell := hT _ hi
    rw [htab] at hcell
    exact tz64_some x _ _ w (by simp; omega) (tz64_key x _ hx hx0 hlow) hi hk hcell

theorem shl_63 (k : Nat) (hk : k < 8) : IntKind.u64.wrap (63 * 2 ^ (k * 6)) = ((63 * 2 ^ (6 * k) : Nat) : Int) := by
  rw [IntKind.wrap_u64, Nat.mul_comm k 6]
  have : (2 : Nat) ^ (6 * k) ≤ 2 ^ 42 := Nat.pow_le_pow_right (by omega) (by omega)
  have e : (63 : Int) * ((2 : Int) ^ (6 * k)) = ((63 * 2 ^ (6 * k) : Nat) : Int) := by simp
  rw [e]
  exact Int.emod_eq_of_lt (by omega) (by omega)
set_option maxHeartbeats 400000 in
theorem field_any (p : Nat) (h0 : p ≠ 0) (hp : p < 2 ^ 36) (w : World) (hT : TabT w) :
    Calls Tryz.prog 249 #[.int .u64 p] w fun e w' => e = .returned (.int .u64 ((fieldP p : Nat) : Int)) ∧ w' = w := by
  have HT : Hid (TabT w) := hT
  have hc := (bitsL_step p h0 hp).2
  obtain ⟨t, ht⟩ : ∃ t, Lib.ctz 64 p = t := ⟨_, rfl⟩
  have HC : Hid (Lib.ctz 64 p = t) := ht
  rw [ht] at hc
  have HF : Hid (fieldP p = 63 * 2 ^ (6 * (t / 6))) := by show _ = _; unfold fieldP; rw [ht]
  have hs := shl_63 (t / 6) (by omega)
  rw [HF.out]
  obtain ⟨q, hq⟩ : ∃ q, 63 * 2 ^ (6 * (t / 6)) = q := ⟨_, rfl⟩
  rw [hq] at hs ⊢
  have HP : Hid (p < 2 ^ 36) := hp
  clear hT ht hq hp h0
  go_enter Tryz.func249, Tryz.ntmps249
  go_wp2_with fail
  refine (tz64_any p (by have := HP.out; omega) _ HT.out).mono ?_
  rintro e w ⟨rfl, rfl⟩
  rw [HC.out]
  go_wp2
  go_ret
  exact ⟨ret_int hs, rfl⟩
end Go.Proofs.YtdjbejlbmaiocagGreatDoor
/-
  WALK: package fence: Units, Fails.
-/
namespace Go.Proofs.YtdjbejlbmaiocagGreatDoor
open Go.RowKit

theorem round_cons (cs : List Nat) (k c left : Nat) (h : cs[k]? = some c) : roundP (cs.drop k) left = if left &&& c = 0 then none
    else if lessN (left &&& c) (fieldP (left &&& c)) = 0 then roundP (cs.drop (k + 1)) (lessN left (lessN (fieldP (left &&& c)) (left &&& c))) else roundP (cs.drop (k + 1)) left := by
  have hk : k < cs.length := (List.getElem?_eq_some_iff.1 h).1
  have hc : cs[k] = c := by rw [List.getElem?_eq_getElem hk] at h; exact Option.some.inj h
  rw [List.drop_eq_getElem_cons hk, hc]
  rfl
theorem field_lt (p : Nat) (h0 : p ≠ 0) (h : p < 2 ^ 36) : fieldP p < 2 ^ 36 := by
  have h1 := (bitsL_step p h0 h).2
  unfold fieldP
  have h2 : 2 ^ (6 * (Lib.ctz 64 p / 6)) ≤ 2 ^ 30 := Nat.pow_le_pow_right (by omega) (by omega)
  omega
theorem and_lt36 {a b : Nat} (ha : a < 2 ^ 36) : a &&& b < 2 ^ 36 := Nat.lt_of_le_of_lt Nat.and_le_left ha

theorem ret_u64 {a b : Nat} (h : a = b) : Ending.returned (.int .u64 (a : Int)) = Ending.returned (.int .u64 (b : Int)) := by rw [h]

set_option maxHeartbeats 1600000 in
set_option maxRecDepth 100000 in
theorem units_any (vs : List MVar) (h6 : vs.length ≤ 6) (hn1 : 1 ≤ vs.length) (cs : List Nat) (r : Nat) (hr36 : r < 2 ^ 36) (sv pv : Value) (w : World) (hv : VArg w sv vs) (hp : PArg w pv cs) (hT : TabT w) :
    Calls Tryz.prog 190 #[sv, pv, .int .u64 r] w fun e w' => e = .returned (.int .u64 ((unitsP vs cs r : Nat) : Int)) ∧ w' = w := by
  have HV : Hid (VArg w sv vs) := hv
  have HT : Hid (TabT w) := hT
  have H6 : Hid (vs.length ≤ 6) := h6
  have HR36 : Hid (r < 2 ^ 36) := hr36
  obtain ⟨R, hR⟩ : ∃ R, unitsP vs cs r = R := ⟨_, rfl⟩
  have HS : Hid (R = if lackP vs.length r then 0 else unitsN cs (r + 1) r) := by show _ = _; rw [← hR]; rfl
  rw [hR]
  have HR0 : Hid (lackP vs.length r = false → r ≠ 0) := fun h0 h1 => by
    rw [lack_hit vs.length r 0 (by omega) (by rw [h1]; rfl)] at h0; cases h0
  obtain ⟨a, c, rfl, _, _⟩ := hv
  obtain ⟨a2, c2, rfl, hm, hrp⟩ := hp
  have HP : Hid (∀ (i z : Nat), cs[i]? = some z → z < 2 ^ 36 ∧ ∃ b off, a2 = some ⟨b, off, none⟩ ∧ b < w.heap.size ∧ w.cell? ⟨b, off + i, none⟩ = some (.int .u64 z)) := hrp
  unfold maxLen at hm
  obtain ⟨hm1, hm⟩ := hm
  clear hT hR hrp hn1 h6 hr36
  go_enter Tryz.func190, Tryz.ntmps190
  go_wp2_with fail
  refine (lacking_any vs H6.out r HR36.out _ _ HV.out).mono ?_
  rintro e w ⟨rfl, rfl⟩
  obtain ⟨L, hL⟩ : ∃ L, lackP vs.length r = L := ⟨_, rfl⟩
  rw [hL] at HS HR0 ⊢
  clear hL
  cases L
  · have HS2 : Hid (R = unitsN cs (r + 1) r) := HS.out
    have HN0 : Hid (r ≠ 0) := HR0.out rfl
    clear HS HR0
    go_wp2_with fail
    go_loopw [7, 8] (fun l b wr => ∃ bb ll : Nat, l = .int .u64 (ll : Int) ∧ b = .int .u64 (bb : Int) ∧ Hid (ll < 2 ^ 36) ∧ Hid (if bb = ll then R = ll else R = unitsN cs (ll + 1) ll) ∧ wr = w) (fun l b _ => if intOf b = intOf l then 0 else (intOf l).toNat + 1)
    case atStart => exact ⟨0, r, rfl, rfl, HR36, by show (if _ then _ else _); rw [if_neg (fun h => HN0.out h.symm)]; exact HS2.out, rfl⟩
    case round =>
      obtain ⟨bb, ll, rfl, rfl, hl36, hst, rfl⟩ := hrel
      by_cases hbl : bb = ll
      · have HN : Hid (R = ll) := by have := hst.out; rw [if_pos hbl] at this; exact this
        have hne : ((bb : Int) != (ll : Int)) = false := by simp [hbl]
        clear hst hbl
        go_wp2
        go_ret
        exact ⟨ret_u64 HN.out.symm, rfl⟩
      · have HN : Hid (R = unitsN cs (ll + 1) ll) := by have := hst.out; rw [if_neg hbl] at this; exact this
        have HU : Hid (R = match roundP cs ll with
            | none => 0
            | some l => if l = ll then ll else unitsN cs (l + 1) l) := by show _ = _; rw [HN.out]; exact units_step cs ll
        have HBL : Hid (bb ≠ ll) := hbl
        have hne : ((bb : Int) != (ll : Int)) = true := by simp; omega
        clear hst hbl
        go_wp2_with fail
        clear hne
        go_loopw [7, 23] (fun l i wx => ∃ k l2 : Nat, k ≤ cs.length ∧ i = .int .i64 k ∧ l = .int .u64 (l2 : Int) ∧ Hid (l2 < 2 ^ 36) ∧ Hid (roundP cs ll = roundP (cs.drop k) l2) ∧ wx = wr) (fun _ i _ => cs.length - (intOf i).toNat)
        case atStart => exact ⟨0, ll, by omega, rfl, rfl, hl36, rfl, rfl⟩
        case round =>
          obtain ⟨k, l2, hk, rfl, rfl, hl2, hrd, rfl⟩ := hrel
          by_cases hlt : k < cs.length
          · obtain ⟨z, hz⟩ : ∃ z, cs[k]? = some z := ⟨cs[k], by simp [hlt]⟩
            obtain ⟨hz36, b, off, ha, hb, hc⟩ := HP.out k z hz
            subst ha
            have HZ : Hid (cs[k]? = some z) := hz
            have HRC : Hid (roundP (cs.drop k) l2 = if l2 &&& z = 0 then none
              else if lessN (l2 &&& z) (fieldP (l2 &&& z)) = 0 then roundP (cs.drop (k + 1)) (lessN l2 (lessN (fieldP (l2 &&& z)) (l2 &&& z))) else roundP (cs.drop (k + 1)) l2) := round_cons cs k z l2 hz
            have hand := bits_and_u64_nat l2 z (by have := hl2.out; omega) (by omega)
            obtain ⟨o, ho⟩ : ∃ o, l2 &&& z = o := ⟨_, rfl⟩
            have HO36 : Hid (o < 2 ^ 36) := by rw [← ho]; exact and_lt36 hl2.out
            rw [ho] at hand HRC
            clear hz hz36 ho
            by_cases ho0 : o = 0
            · have HE : Hid (R = 0) := by show _ = _; rw [HU.out, hrd.out, HRC.out, if_pos ho0]
              subst ho0
              clear hrd hl2
              go_wp2
              go_ret
              exact ⟨ret_u64 HE.out.symm, rfl⟩
            · have HRC2 : Hid (roundP (cs.drop k) l2 = if lessN o (fieldP o) = 0 then roundP (cs.drop (k + 1)) (lessN l2 (lessN (fieldP o) o)) else roundP (cs.drop (k + 1)) l2) := by show _ = _; rw [HRC.out, if_neg ho0]
              have HO0 : Hid (o ≠ 0) := ho0
              have ho1 : ((o : Int) == 0) = false := by simpa using ho0
              obtain ⟨f, hf⟩ : ∃ f, fieldP o = f := ⟨_, rfl⟩
              have HF36 : Hid (f < 2 ^ 36) := by rw [← hf]; exact field_lt o ho0 HO36.out
              have hnt := bits_andNot_u64 o f (by have := HO36.out; omega) (by have := HF36.out; omega)
              have HF : Hid (fieldP o = f) := hf
              rw [hf] at HRC2
              obtain ⟨g, hg⟩ : ∃ g, lessN o f = g := ⟨_, rfl⟩
              rw [hg] at hnt HRC2
              clear ho0 hf hg HRC
              by_cases hg0 : g = 0
              · have hn2 := bits_andNot_u64 f o (by have := HF36.out; omega) (by have := HO36.out; omega)
                obtain ⟨t, ht⟩ : ∃ t, lessN f o = t := ⟨_, rfl⟩
                have HT36 : Hid (t < 2 ^ 36) := by rw [← ht]; exact less_lt 36 _ _ HF36.out
                have hn3 := bits_andNot_u64 l2 t (by have := hl2.out; omega) (by have := HT36.out; omega)
                obtain ⟨l3, hl3⟩ : ∃ l3, lessN l2 t = l3 := ⟨_, rfl⟩
                have HL36 : Hid (l3 < 2 ^ 36) := by rw [← hl3]; exact less_lt 36 _ _ hl2.out
                have HE : Hid (roundP cs ll = roundP (cs.drop (k + 1)) l3) := by show _ = _; rw [hrd.out, HRC2.out, if_pos hg0, ht, hl3]
                rw [ht] at hn2
                rw [hl3] at hn3
                subst hg0
                clear hrd ht hl3 HRC2 hl2
                go_wp2_with fail
                refine (field_any o HO0.out HO36.out _ HT.out).mono ?_
                rintro e w ⟨rfl, rfl⟩
                rw [HF.out]
                go_wp2
                go_roundw
                case rel => exact ⟨k + 1, l3, by omega, by go_num, rfl, HL36, HE, trivial⟩
                case measure => simp [intOf]; omega
              · have HE : Hid (roundP cs ll = roundP (cs.drop (k + 1)) l2) := by show _ = _; rw [hrd.out, HRC2.out, if_neg hg0]
                have hg1 : ((g : Int) == 0) = false := by simpa using hg0
                clear hrd hg0 HRC2
                go_wp2_with fail
                refine (field_any o HO0.out HO36.out _ HT.out).mono ?_
                rintro e w ⟨rfl, rfl⟩
                rw [HF.out]
                go_wp2
                go_roundw
                case rel => exact ⟨k + 1, l2, by omega, by go_num, rfl, hl2, HE, trivial⟩
                case measure => simp [intOf]; omega
          · have hke : k = cs.length := by omega
            have HE : Hid (roundP cs ll = some l2) := by show _ = _; rw [hrd.out, hke, List.drop_length]; rfl
            have HLE : Hid (l2 ≤ ll) := round_le cs ll l2 HE.out
            have HU2 : Hid (if ll = l2 then R = l2 else R = unitsN cs (l2 + 1) l2) := by
              show (if _ then _ else _)
              have := HU.out
              rw [HE.out] at this
              simp only at this
              by_cases hq : ll = l2
              · rw [if_pos hq]; rw [if_pos hq.symm] at this; rw [this]; exact hq
              · rw [if_neg hq]; rw [if_neg (fun h => hq h.symm)] at this; exact this
            have HM : Hid ((if (ll : Int) = (l2 : Int) then 0 else (l2 : Int).toNat + 1) < (if (bb : Int) = (ll : Int) then 0 else (ll : Int).toNat + 1)) := by
              show _ < _
              have h1 := HBL.out
              have h2 := HLE.out
              have e : (if (bb : Int) = (ll : Int) then 0 else (ll : Int).toNat + 1) = (ll : Int).toNat + 1 := if_neg (by omega)
              rw [e]
              split <;> omega
            clear hrd hke
            go_wp2
            go_roundw
            case rel => exact ⟨ll, l2, rfl, rfl, hl2, HU2, trivial⟩
            case measure => exact HM.out
  · have HN : Hid (R = 0) := HS.out
    go_wp2
    go_ret
    exact ⟨ret_u64 HN.out.symm, rfl⟩

set_option maxHeartbeats 800000 in
set_option maxRecDepth 100000 in
theorem fails_any (vs : List MVar) (hva : VarsAll vs) (hn1 : 1 ≤ vs.length) (cs : List Nat) (h : Nat) (hh : h < 2 ^ 36) (sv pv : Value) (w : World) (hv : VArg w sv vs) (hp : PArg w pv cs) (hT : TabT w) :
    Calls Tryz.prog 130 #[sv, pv, .int .u64 h] w fun e w' => e = .returned (.bool (failsP vs cs h)) ∧ Below w.heap.size w w' := by
  have HV : Hid (∀ w', Below w.heap.size w w' → VArg w' sv vs) := fun w' h => VArg.below h hv
  have HP : Hid (∀ w', Below w.heap.size w w' → PArg w' pv cs) := fun w' h => PArg.below h hp
  have HT : Hid (∀ w', Below w.heap.size w w' → TabT w') := fun w' h => hT.below h
  have HVO : Hid (VarsAll vs) := hva
  have H6 : Hid (vs.length ≤ 6) := hva.1.1
  have H1 : Hid (1 ≤ vs.length) := hn1
  have HW36 : Hid (wholeP vs < 2 ^ 36) := of_lt vs hva.1 _
  obtain ⟨q, hq⟩ : ∃ q, wholeP vs = q := ⟨_, rfl⟩
  obtain ⟨r, hr⟩ : ∃ r, lessN (wholeP vs) h = r := ⟨_, rfl⟩
  have HR36 : Hid (r < 2 ^ 36) := by rw [← hr]; exact less_lt 36 _ _ HW36.out
  have hbits := bits_andNot_u64 (wholeP vs) h (by have := HW36.out; omega) (by omega)
  rw [hr, hq] at hbits
  have HQ : Hid (wholeP vs = q) := hq
  obtain ⟨R, hR⟩ : ∃ R, failsP vs cs h = R := ⟨_, rfl⟩
  have HS : Hid (R = (((unitsP vs cs r : Nat) : Int) == 0)) := by
    show _ = _
    rw [← hR]; unfold failsP; rw [hr]
    by_cases h0 : unitsP vs cs r = 0
    · rw [h0]; rfl
    · have h1 : (((unitsP vs cs r : Nat) : Int) == 0) = false := by simpa using h0
      rw [h1]; simpa using h0
  rw [hR]
  obtain ⟨a, c, rfl, _, _⟩ := hv
  obtain ⟨a2, c2, rfl, _, _⟩ := hp
  clear hva hh hq hr hT hR hn1
  go_enter Tryz.func130, Tryz.ntmps130
  go_wp2_with fail
  refine (whole_any vs HVO.out _ _ (HV.out _ (Below.refl _ _))).mono ?_
  rintro e w1 ⟨rfl, hb1⟩
  rw [HQ.out]
  have HB1 : Hid (Below w.heap.size w w1) := hb1
  clear hb1
  go_wp2_with fail
  refine (units_any vs H6.out H1.out cs r HR36.out _ _ _ (HV.out _ HB1.out) (HP.out _ HB1.out) (HT.out _ HB1.out)).mono ?_
  rintro e w1 ⟨rfl, rfl⟩
  obtain ⟨U, hU⟩ : ∃ U : Int, ((unitsP vs cs r : Nat) : Int) = U := ⟨_, rfl⟩
  rw [hU] at HS ⊢
  clear hU
  go_wp2
  go_ret
  exact ⟨ret_bool HS.out.symm, HB1.out⟩
end Go.Proofs.YtdjbejlbmaiocagGreatDoor
/-
  MEMORY: lists of clauses.
-/
namespace Go.Proofs.YtdjbejlbmaiocagGreatDoor
open Go.RowKit

/-- A list of clauses. -/
def LLArg (w : World) (v : Value) (l : List Cla) : Prop :=
  ∃ a c, v = .slice a l.length c ∧ (l.length ≤ c ∧ c ≤ maxLen) ∧ ∀ (i : Nat) (t : Cla), l[i]? = some t → ∃ b off x, a = some ⟨b, off, none⟩ ∧ b < w.heap.size ∧ w.cell? ⟨b, off + i, none⟩ = some x ∧ LArg w x t
theorem LLArg.below {w w' : World} {v : Value} {l : List Cla} (hb : Below w.heap.size w w') (h : LLArg w v l) : LLArg w' v l := by
  obtain ⟨a, c, hv, hm, hr⟩ := h
  refine ⟨a, c, hv, hm, fun i z hz => ?_⟩
  obtain ⟨b, off, x, ha, hlt, hc, hx⟩ := hr i z hz
  exact ⟨b, off, x, ha, Nat.lt_of_lt_of_le hlt hb.size, (hb.cell (p := ⟨b, off + i, none⟩) hlt).trans hc, LArg.below hb hx⟩
end Go.Proofs.YtdjbejlbmaiocagGreatDoor
/-
  WALKS: package fault: what is wrong with a literal.
-/
namespace Go.Proofs.YtdjbejlbmaiocagGreatDoor
open Go.RowKit

set_option maxHeartbeats 800000 in
set_option maxRecDepth 100000 in
theorem lit_check (vs : List MVar) (l : MLit) (v : Value) (w : World) (hv : VArg w v vs) :
    Calls Tryz.prog 180 #[v, .agg #[.int .i64 l.var, .int .i64 l.op, .int .i64 l.n]] w fun e w' => e = .returned (.int .i64 (litE vs l)) ∧ Below w.heap.size w w' := by
  obtain ⟨a, c, rfl, hm, _⟩ := hv
  unfold maxLen at hm
  obtain ⟨hm1, hm⟩ := hm
  obtain ⟨R, hR⟩ : ∃ R, litE vs l = R := ⟨_, rfl⟩
  rw [hR]
  unfold litE at hR
  by_cases q1 : l.var < 0
  · have HE : Hid (R = 5) := by rw [← hR, if_pos (Or.inl q1)]; rfl
    clear hR
    go_enter Tryz.func180, Tryz.ntmps180
    go_wp2
    go_ret
    exact ⟨ret_int HE.out.symm, below_alloc _ _⟩
  by_cases q2 : (vs.length : Int) ≤ l.var
  · have HE : Hid (R = 5) := by rw [← hR, if_pos (Or.inr q2)]; rfl
    clear hR
    go_enter Tryz.func180, Tryz.ntmps180
    go_wp2
    go_ret
    exact ⟨ret_int HE.out.symm, below_alloc _ _⟩
  rw [if_neg (by omega)] at hR
  by_cases q3 : l.op < 1
  · have HE : Hid (R = 7) := by rw [← hR, if_pos (Or.inl q3)]; rfl
    clear hR
    go_enter Tryz.func180, Tryz.ntmps180
    go_wp2
    go_ret
    exact ⟨ret_int HE.out.symm, below_alloc _ _⟩
  by_cases q4 : 4 < l.op
  · have HE : Hid (R = 7) := by rw [← hR, if_pos (Or.inr q4)]; rfl
    clear hR
    go_enter Tryz.func180, Tryz.ntmps180
    go_wp2
    go_ret
    exact ⟨ret_int HE.out.symm, below_alloc _ _⟩
  rw [if_neg (by omega)] at hR
  by_cases q5 : l.n < -1000
  · have HE : Hid (R = 3) := by rw [← hR, if_pos (Or.inl q5)]; rfl
    clear hR
    go_enter Tryz.func180, Tryz.ntmps180
    go_wp2
    go_ret
    exact ⟨ret_int HE.out.symm, below_alloc _ _⟩
  by_cases q6 : 1000 < l.n
  · have HE : Hid (R = 3) := by rw [← hR, if_pos (Or.inr q6)]; rfl
    clear hR
    go_enter Tryz.func180, Tryz.ntmps180
    go_wp2
    go_ret
    exact ⟨ret_int HE.out.symm, below_alloc _ _⟩
  have HE : Hid (R = 0) := by rw [← hR, if_neg (by omega)]; rfl
  clear hR
  go_enter Tryz.func180, Tryz.ntmps180
  go_wp2
  go_ret
  exact ⟨ret_int HE.out.symm, below_alloc _ _⟩

end Go.Proofs.YtdjbejlbmaiocagGreatDoor
/-
  WALKS: package fault: what is wrong with a clause.
-/
namespace Go.Proofs.YtdjbejlbmaiocagGreatDoor
open Go.RowKit

set_option maxHeartbeats 800000 in
set_option maxRecDepth 100000 in
theorem cla_check (vs : List MVar) (c : Cla) (v u : Value) (w : World) (hv : VArg w v vs) (hu : LArg w u c) :
    Calls Tryz.prog 125 #[v, u] w fun e w' => e = .returned (.int .i64 (claE vs c)) ∧ Below w.heap.size w w' := by
  have HVA : Hid (∀ w' : World, Below w.heap.size w w' → VArg w' v vs) := fun w' h => VArg.below h hv
  obtain ⟨a1, c1, rfl, _, _⟩ := hv
  obtain ⟨a, cc, rfl, hm, hr⟩ := hu
  have HV : Hid (∀ (i : Nat) (t : MLit), c[i]? = some t → ∃ b off, a = some ⟨b, off, none⟩ ∧ b < w.heap.size ∧
    w.cell? ⟨b, off + i * 3, none⟩ = some (.int .i64 t.var) ∧ w.cell? ⟨b, off + i * 3 + 1, none⟩ = some (.int .i64 t.op) ∧ w.cell? ⟨b, off + i * 3 + 2, none⟩ = some (.int .i64 t.n)) := hr
  unfold maxLen at hm
  obtain ⟨hm1, hm⟩ := hm
  obtain ⟨R, hR⟩ : ∃ R, claE vs c = R := ⟨_, rfl⟩
  rw [hR]
  have HE : Hid (R = if 40 < c.length then 2 else firstE (c.map (litE vs))) := by rw [← hR]; rfl
  clear hR hr
  by_cases h40 : 40 < c.length
  · have HN : Hid (R = 2) := by rw [HE.out, if_pos h40]; rfl
    go_enter Tryz.func125, Tryz.ntmps125
    go_wp2
    go_ret
    exact ⟨ret_int HN.out.symm, Below.refl _ _⟩
  · have HE2 : Hid (R = firstE (c.map (litE vs))) := by rw [HE.out, if_neg h40]; rfl
    go_enter Tryz.func125, Tryz.ntmps125
    go_wp2_with fail
    go_loopw [13] (fun i wr => ∃ k : Nat, k ≤ c.length ∧ i = .int .i64 k ∧ Hid (firstE ((c.map (litE vs)).take k) = 0) ∧ Below w.heap.size w wr) (fun i _ => c.length - (intOf i).toNat)
    case atStart => exact ⟨0, by omega, rfl, rfl, Below.refl _ _⟩
    case round =>
      obtain ⟨k, hk, rfl, hall, hbw⟩ := hrel
      by_cases hlt : k < c.length
      · obtain ⟨t, hz⟩ : ∃ z, c[k]? = some z := ⟨c[k], by simp [hlt]⟩
        obtain ⟨b, off, ha, hb, q0, q1, q2⟩ := HV.out k t hz
        have hc0 := (hbw.cell (p := ⟨b, off + k * 3, none⟩) hb).trans q0
        have hc1 := (hbw.cell (p := ⟨b, off + k * 3 + 1, none⟩) hb).trans q1
        have hc2 := (hbw.cell (p := ⟨b, off + k * 3 + 2, none⟩) hb).trans q2
        have hsz := hbw.size
        subst ha
        obtain ⟨er, her⟩ : ∃ er, litE vs t = er := ⟨_, rfl⟩
        have HER : Hid (litE vs t = er) := her
        have HZ : Hid ((c.map (litE vs))[k]? = some er) := by show _ = _; rw [List.getElem?_map, hz, ← her]; rfl
        clear hz q0 q1 q2 her
        go_wp2_with fail
        refine (lit_check vs t _ _ ?_).mono ?_
        · exact HVA.out _ (hbw.alloc hsz _)
        rintro e w2 ⟨rfl, hb2⟩
        rw [HER.out]
        have hB2 : Below w.heap.size w w2 := (hbw.alloc hsz _).trans (hb2.mono (by simp; omega))
        clear hb2
        by_cases he : er = 0
        · subst he
          have HN : Hid (firstE ((c.map (litE vs)).take (k + 1)) = 0) := firstE_step _ k hall.out HZ.out
          go_wp2
          go_roundw
          case rel => exact ⟨k + 1, by omega, by go_num, HN, hB2⟩
          case measure => simp [intOf]; omega
        · have HN : Hid (R = er) := by rw [HE2.out]; exact firstE_hit _ k er hall.out HZ.out he
          have he2 : (er != 0) = true := by simpa using he
          clear he
          go_wp2
          go_ret
          exact ⟨ret_int HN.out.symm, hB2⟩
      · have HN : Hid (R = 0) := by
          have := hall.out
          rw [List.take_of_length_le (by simp; omega)] at this
          rw [HE2.out]; exact this
        go_wp2
        go_ret
        exact ⟨ret_int HN.out.symm, hbw⟩
end Go.Proofs.YtdjbejlbmaiocagGreatDoor
/-
  WALK: package fault: what is wrong with clauses.
-/
namespace Go.Proofs.YtdjbejlbmaiocagGreatDoor
open Go.RowKit

set_option maxHeartbeats 800000 in
set_option maxRecDepth 100000 in
theorem clas_check (vs : List MVar) (l : List Cla) (v u : Value) (w : World) (hv : VArg w v vs) (hu : LLArg w u l) :
    Calls Tryz.prog 129 #[v, u] w fun e w' => e = .returned (.int .i64 (clasE vs l)) ∧ Below w.heap.size w w' := by
  have HVA : Hid (∀ w' : World, Below w.heap.size w w' → VArg w' v vs) := fun w' h => VArg.below h hv
  obtain ⟨a1, c1, rfl, _, _⟩ := hv
  obtain ⟨a, cc, rfl, hm, hr⟩ := hu
  have HV : Hid (∀ (i : Nat) (t : Cla), l[i]? = some t → ∃ b off x, a = some ⟨b, off, none⟩ ∧ b < w.heap.size ∧ w.cell? ⟨b, off + i, none⟩ = some x ∧ LArg w x t) := hr
  unfold maxLen at hm
  obtain ⟨hm1, hm⟩ := hm
  obtain ⟨R, hR⟩ : ∃ R, clasE vs l = R := ⟨_, rfl⟩
  rw [hR]
  have HE : Hid (R = if 600 < l.length then 2 else firstE (l.map (claE vs))) := by rw [← hR]; rfl
  clear hR hr
  by_cases h40 : 600 < l.length
  · have HN : Hid (R = 2) := by rw [HE.out, if_pos h40]; rfl
    go_enter Tryz.func129, Tryz.ntmps129
    go_wp2
    go_ret
    exact ⟨ret_int HN.out.symm, Below.refl _ _⟩
  · have HE2 : Hid (R = firstE (l.map (claE vs))) := by rw [HE.out, if_neg h40]; rfl
    go_enter Tryz.func129, Tryz.ntmps129
    go_wp2_with fail
    go_loopw [13] (fun i wr => ∃ k : Nat, k ≤ l.length ∧ i = .int .i64 k ∧ Hid (firstE ((l.map (claE vs)).take k) = 0) ∧ Below w.heap.size w wr) (fun i _ => l.length - (intOf i).toNat)
    case atStart => exact ⟨0, by omega, rfl, rfl, Below.refl _ _⟩
    case round =>
      obtain ⟨k, hk, rfl, hall, hbw⟩ := hrel
      by_cases hlt : k < l.length
      · obtain ⟨t, hz⟩ : ∃ z, l[k]? = some z := ⟨l[k], by simp [hlt]⟩
        obtain ⟨b, off, x, ha, hb, q0, hx⟩ := HV.out k t hz
        have HX : Hid (LArg wr x t) := LArg.below hbw hx
        obtain ⟨a5, c5, rfl, _, _⟩ := hx
        have hc0 := (hbw.cell (p := ⟨b, off + k, none⟩) hb).trans q0
        subst ha
        obtain ⟨er, her⟩ : ∃ er, claE vs t = er := ⟨_, rfl⟩
        have HER : Hid (claE vs t = er) := her
        have HZ : Hid ((l.map (claE vs))[k]? = some er) := by show _ = _; rw [List.getElem?_map, hz, ← her]; rfl
        clear hz q0 her
        go_wp2_with fail
        refine (cla_check vs t _ _ _ (HVA.out _ hbw) HX.out).mono ?_
        rintro e w2 ⟨rfl, hb2⟩
        rw [HER.out]
        have hB2 : Below w.heap.size w w2 := hbw.trans (hb2.mono hbw.size)
        clear hb2
        by_cases he : er = 0
        · subst he
          have HN : Hid (firstE ((l.map (claE vs)).take (k + 1)) = 0) := firstE_step _ k hall.out HZ.out
          go_wp2
          go_roundw
          case rel => exact ⟨k + 1, by omega, by go_num, HN, hB2⟩
          case measure => simp [intOf]; omega
        · have HN : Hid (R = er) := by rw [HE2.out]; exact firstE_hit _ k er hall.out HZ.out he
          have he2 : (er != 0) = true := by simpa using he
          clear he
          go_wp2
          go_ret
          exact ⟨ret_int HN.out.symm, hB2⟩
      · have HN : Hid (R = 0) := by
          have := hall.out
          rw [List.take_of_length_le (by simp; omega)] at this
          rw [HE2.out]; exact this
        go_wp2
        go_ret
        exact ⟨ret_int HN.out.symm, hbw⟩
end Go.Proofs.YtdjbejlbmaiocagGreatDoor
