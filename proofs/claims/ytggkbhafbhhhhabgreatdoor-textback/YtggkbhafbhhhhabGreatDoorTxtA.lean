/-
  WALKS: package text: the reader: ahead, giveUp, pass, skip.
-/
import Derived.Test.YtggkbhafbhhhhabGreatDoorTxtPlain
import Derived.Test.YtggkbhafbhhhhabGreatDoorTokS
import Derived.Test.YtggkbhafbhhhhabGreatDoorModMem
import Derived.Defers
import Derived.Recover
namespace Go.Proofs.YtggkbhafbhhhhabGreatDoor
open Go.RowKit

/-- All blocks but some are as they were. -/
structure Fr (X : Nat → Prop) (w w' : World) : Prop where
  os : w'.os = w.os
  tape : w'.tape = w.tape
  output : w'.output = w.output
  size : w.heap.size ≤ w'.heap.size
  block : ∀ k, k < w.heap.size → ¬ X k → w'.heap[k]? = w.heap[k]?
theorem Fr.refl (X : Nat → Prop) (w : World) : Fr X w w := ⟨rfl, rfl, rfl, Nat.le_refl _, fun _ _ _ => rfl⟩
theorem Fr.trans {X : Nat → Prop} {a b c : World} (h : Fr X a b) (k : Fr X b c) : Fr X a c :=
  ⟨k.os.trans h.os, k.tape.trans h.tape, k.output.trans h.output, Nat.le_trans h.size k.size, fun i hi hx => (k.block i (Nat.lt_of_lt_of_le hi h.size) hx).trans (h.block i hi hx)⟩
theorem Fr.below {X : Nat → Prop} {w w' : World} (h : Below w.heap.size w w') : Fr X w w' := ⟨h.os, h.tape, h.output, h.size, fun k hk _ => h.block k hk⟩
theorem Fr.cell {X : Nat → Prop} {w w' : World} (h : Fr X w w') {p : Addr} (hp : p.block < w.heap.size) (hx : ¬ X p.block) : w'.cell? p = w.cell? p := World.cell?_of_block (w := w) (h.block p.block hp hx)

theorem Fr.setX {X : Nat → Prop} {a w : World} (h : Fr X a w) {p : Addr} (hp : X p.block) (u : Value) : Fr X a (w.setCell p u) :=
  ⟨h.os, h.tape, h.output, by simpa using h.size, fun k hk hx => (Below.heap_setCell _ _ _ _ (fun e => hx (by rw [e]; exact hp))).trans (h.block k hk hx)⟩
theorem Fr.setNew {X : Nat → Prop} {a w : World} (h : Fr X a w) {p : Addr} (hp : a.heap.size ≤ p.block) (u : Value) : Fr X a (w.setCell p u) :=
  ⟨h.os, h.tape, h.output, by simpa using h.size, fun k hk hx => (Below.heap_setCell _ _ _ _ (by omega)).trans (h.block k hk hx)⟩
theorem Fr.alloc {X : Nat → Prop} {a w : World} (h : Fr X a w) (o : Obj) : Fr X a (w.alloc o) := h.trans (Fr.below (below_alloc _ _))

/-- Tokens that lie below a block. -/
def TArg (N : Nat) (w : World) (v : Value) (l : List Tok) : Prop :=
  ∃ a c, v = .slice a l.length c ∧ (l.length ≤ c ∧ c ≤ maxLen) ∧ (l.length ≤ 4000 ∧ ∀ t ∈ l, TokOk t) ∧ ∀ (i : Nat) (t : Tok), l[i]? = some t → ∃ b off, a = some ⟨b, off, none⟩ ∧ b < N ∧ w.cell? ⟨b, off + i * 3, none⟩ = some (.int .i64 t.kind) ∧ w.cell? ⟨b, off + i * 3 + 1, none⟩ = some (.int .i64 t.place) ∧ w.cell? ⟨b, off + i * 3 + 2, none⟩ = some (.string t.text)
/-- A reader in memory: its block, its tokens; its map is told of elsewhere. -/
def Rd (N R M : Nat) (en : Int) (w : World) (l : List Tok) : Prop :=
  (N ≤ R ∧ N ≤ w.heap.size ∧ M ≠ R) ∧ ∃ v, w.heap[R]? = some (.cells #[v, .int .i64 en, .map (some M)] 88) ∧ TArg N w v l

theorem TArg.old {N : Nat} {w w' : World} {v : Value} {l : List Tok} (h : TArg N w v l) (hc : ∀ p : Addr, p.block < N → w'.cell? p = w.cell? p) : TArg N w' v l := by
  obtain ⟨a, c, hv, hm, ht, hr⟩ := h
  refine ⟨a, c, hv, hm, ht, fun i t hi => ?_⟩
  obtain ⟨b, off, ha, hlt, c0, c1, c2⟩ := hr i t hi
  exact ⟨b, off, ha, hlt, (hc ⟨b, off + i * 3, none⟩ hlt).trans c0, (hc ⟨b, off + i * 3 + 1, none⟩ hlt).trans c1, (hc ⟨b, off + i * 3 + 2, none⟩ hlt).trans c2⟩
theorem Rd.len {N R M : Nat} {en : Int} {w : World} {l : List Tok} (h : Rd N R M en w l) : l.length ≤ 4000 := by
  obtain ⟨_, v, _, _, _, _, _, ht, _⟩ := h
  exact ht.1
theorem Rd.set {N R M : Nat} {en : Int} {w : World} {l : List Tok} (h : Rd N R M en w l) {p : Addr} (hp : p.block ≠ R) (hN : N ≤ p.block) (u : Value) : Rd N R M en (w.setCell p u) l := by
  obtain ⟨⟨h1, h2, h3⟩, v, hR, ht⟩ := h
  exact ⟨⟨h1, by simpa using h2, h3⟩, v, (Below.heap_setCell _ _ _ _ (Ne.symm hp)).trans hR, ht.old fun q hq => World.cell?_of_block (Below.heap_setCell _ _ _ _ (by omega))⟩
theorem Rd.put {N R M : Nat} {en : Int} {w : World} {l r : List Tok} {v : Value} (h : Rd N R M en w l) (hv : TArg N w v r) : Rd N R M en (w.setCell ⟨R, 0, none⟩ v) r := by
  obtain ⟨⟨h1, h2, h3⟩, v0, hR, _⟩ := h
  refine ⟨⟨h1, by simpa using h2, h3⟩, v, ?_, hv.old fun q hq => World.cell?_of_block (Below.heap_setCell _ _ _ _ (by simp only; omega))⟩
  rw [heap_setCell_same w R 0 _ _ v hR]
  rfl
def tokA (t : Tok) : Value := .agg #[.int .i64 t.kind, .int .i64 t.place, .string t.text]
set_option maxHeartbeats 800000 in
set_option maxRecDepth 100000 in
theorem ahead_any (N R M : Nat) (en : Int) (w : World) (l : List Tok) (h : Rd N R M en w l) :
    Calls Tryz.prog 70 #[.pointer (some ⟨R, 0, none⟩)] w fun e w' => e = .returned (tokA (headT en l)) ∧ Below w.heap.size w w' := by
  obtain ⟨⟨_, hNw, _⟩, v, hR, a, c, rfl, hm, _, hr⟩ := h
  have c0 : w.cell? ⟨R, 0, none⟩ = some (.slice a l.length c) := by rw [Lib.cell_of_heap hR]; rfl
  have c1 : w.cell? ⟨R, 1, none⟩ = some (.int .i64 en) := by rw [Lib.cell_of_heap hR]; rfl
  have hRl : R < w.heap.size := (Array.getElem?_eq_some_iff.1 hR).1
  unfold maxLen at hm
  obtain ⟨hm1, hm⟩ := hm
  cases l with
  | nil =>
    clear hr hR
    go_enter Tryz.func70, Tryz.ntmps70
    go_wp2
    refine bodyPost_ret (by simp [results, Tryz.results70, go_sem, *]; try rfl) rfl ⟨rfl, ?_⟩
    exact below_alloc _ _
  | cons t r =>
    obtain ⟨b, off, rfl, hb, g0, g1, g2⟩ := hr 0 t rfl
    simp only [Nat.zero_mul, Nat.add_zero] at g0 g1 g2
    have hbw : b < w.heap.size := by omega
    have hlen : ((t :: r).length : Int) = (r.length : Int) + 1 := by simp
    clear hr hR
    go_enter Tryz.func70, Tryz.ntmps70
    go_wp2
    refine bodyPost_ret (by simp [results, Tryz.results70, go_sem, *]; try rfl) rfl ⟨rfl, ?_⟩
    exact below_alloc _ _

theorem tokF0 (t : Tok) (w : World) : Sem.run Tryz.prog (Instr.field 79 (.agg #[.int .i64 t.kind, .int .i64 t.place, .string t.text]) 0) w = .ok (.int .i64 t.kind) w := by kernel_rfl
theorem tokF1 (t : Tok) (w : World) : Sem.run Tryz.prog (Instr.field 79 (.agg #[.int .i64 t.kind, .int .i64 t.place, .string t.text]) 1) w = .ok (.int .i64 t.place) w := by kernel_rfl
theorem tokF2 (t : Tok) (w : World) : Sem.run Tryz.prog (Instr.field 79 (.agg #[.int .i64 t.kind, .int .i64 t.place, .string t.text]) 2) w = .ok (.string t.text) w := by kernel_rfl
set_option maxHeartbeats 800000 in
set_option maxRecDepth 100000 in
theorem giveup_any (N R M : Nat) (en er : Int) (w : World) (l : List Tok) (h : Rd N R M en w l) :
    Calls Tryz.prog 74 #[.pointer (some ⟨R, 0, none⟩), .int .i64 er] w fun e w' => e = .panicked [{ v := .iface 83 (.agg #[.int .i64 (headT en l).place, .int .i64 er]), recovered := false }] ∧ Below w.heap.size w w' := by
  have hf1 := tokF1 (headT en l)
  go_enter Tryz.func74, Tryz.ntmps74
  go_wp2_with fail
  refine (ahead_any N R M en _ l h).mono ?_
  rintro e w1 ⟨rfl, hb1⟩
  unfold tokA
  go_wp2
  exact ⟨rfl, rfl, hb1⟩

/-- How a part of the reader ends. -/
def PostR {α : Type} (p : PR α) (G : α → Value → World → Prop) (N R M : Nat) (en : Int) (X : Nat → Prop) (w : World) (e : Ending) (w' : World) : Prop :=
  match p with
  | .ok a r => ∃ v, e = .returned v ∧ G a v w' ∧ Rd N R M en w' r ∧ Fr X w w'
  | .bad x er => e = .panicked [{ v := .iface 83 (.agg #[.int .i64 x, .int .i64 er]), recovered := false }] ∧ Fr X w w'
theorem Rd.below {N R M : Nat} {en : Int} {w w' : World} {l : List Tok} (h : Rd N R M en w l) (hb : Below w.heap.size w w') : Rd N R M en w' l := by
  obtain ⟨⟨h1, h2, h3⟩, v, hR, a, c, hv, hm, ht, hr⟩ := h
  have hRl : R < w.heap.size := (Array.getElem?_eq_some_iff.1 hR).1
  refine ⟨⟨h1, Nat.le_trans h2 hb.size, h3⟩, v, (hb.block R hRl).trans hR, a, c, hv, hm, ht, fun i t hi => ?_⟩
  obtain ⟨b, off, ha, hlt, c0, c1, c2⟩ := hr i t hi
  have hbw : b < w.heap.size := by omega
  exact ⟨b, off, ha, hlt, (hb.cell (p := ⟨b, off + i * 3, none⟩) hbw).trans c0, (hb.cell (p := ⟨b, off + i * 3 + 1, none⟩) hbw).trans c1, (hb.cell (p := ⟨b, off + i * 3 + 2, none⟩) hbw).trans c2⟩

theorem pass_rd {N R M B : Nat} {en : Int} {w1 : World} {l r : List Tok} {v x y z : Value} {o : Obj} (h : Rd N R M en w1 l) (hv : TArg N w1 v r) (hne : B ≠ R) (hN : N ≤ B) :
    Rd N R M en (((((w1.setCell ⟨R, 0, none⟩ v).setCell ⟨B, 0, none⟩ x).setCell ⟨B, 1, none⟩ y).setCell ⟨B, 2, none⟩ z).alloc o) r :=
  ((((h.put hv).set (p := ⟨B, 0, none⟩) hne hN _).set (p := ⟨B, 1, none⟩) hne hN _).set (p := ⟨B, 2, none⟩) hne hN _).below (below_alloc _ _)
theorem pass_fr {R : Nat} {w w1 : World} {v x y z : Value} {o : Obj} (h : Below w.heap.size w w1) :
    Fr (fun k => k = R) w (((((w1.setCell ⟨R, 0, none⟩ v).setCell ⟨w.heap.size, 0, none⟩ x).setCell ⟨w.heap.size, 1, none⟩ y).setCell ⟨w.heap.size, 2, none⟩ z).alloc o) :=
  (((((Fr.below (X := fun k => k = R) h).setX (p := ⟨R, 0, none⟩) rfl _).setNew (p := ⟨w.heap.size, 0, none⟩) (Nat.le_refl _) _).setNew (p := ⟨w.heap.size, 1, none⟩) (Nat.le_refl _) _).setNew (p := ⟨w.heap.size, 2, none⟩) (Nat.le_refl _) _).alloc _
set_option maxHeartbeats 800000 in
set_option maxRecDepth 100000 in
theorem pass_any (N R M : Nat) (en : Int) (fits : Bool) (w : World) (l : List Tok) (h : Rd N R M en w l) (hf : fits = true → l ≠ []) :
    Calls Tryz.prog 114 #[.pointer (some ⟨R, 0, none⟩), .bool fits] w (PostR (passP en fits l) (fun t v _ => v = tokA t) N R M en (fun k => k = R) w) := by
  cases fits
  · have HB : Hid (Rd N R M en w l) := h
    go_enter Tryz.func114, Tryz.ntmps114
    go_wp2_with fail
    refine (giveup_any N R M en 1 _ l (HB.out.below (below_alloc _ _))).mono ?_
    rintro e w1 ⟨rfl, hb1⟩
    go_wp2
    exact ⟨rfl, rfl, Fr.below ((below_alloc _ _).trans (hb1.mono (by simp)))⟩
  · have HB : Hid (Rd N R M en w l) := h
    obtain ⟨t, r, rfl⟩ : ∃ t r, l = t :: r := by
      cases l with
      | nil => exact absurd rfl (hf rfl)
      | cons t r => exact ⟨t, r, rfl⟩
    go_enter Tryz.func114, Tryz.ntmps114
    go_wp2_with fail
    refine (ahead_any N R M en _ (t :: r) (HB.out.below (below_alloc _ _))).mono ?_
    rintro e w1 ⟨rfl, hb1⟩
    have HR1 : Hid (Rd N R M en w1 (t :: r)) := (HB.out.below (below_alloc _ _)).below hb1
    obtain ⟨⟨_, hNw, _⟩, v, hR, a, c, rfl, hm, ht, hr⟩ := HR1.out
    have c0 : w1.cell? ⟨R, 0, none⟩ = some (.slice a (t :: r).length c) := by rw [Lib.cell_of_heap hR]; rfl
    have hRl : R < w1.heap.size := (Array.getElem?_eq_some_iff.1 hR).1
    have z0 : w1.frozen? ⟨R, 0, none⟩ = false := by unfold World.frozen?; simp only [hR]; simp
    obtain ⟨b, off, rfl, hb, _, _, _⟩ := hr 0 t rfl
    unfold maxLen at hm
    obtain ⟨hm1, hm⟩ := hm
    have HB1 : Hid (Below w.heap.size w w1) := (below_alloc _ _).trans (hb1.mono (by simp))
    have HW : w1.heap[w.heap.size]? = some (.cells #[.int .i64 0, .int .i64 0, .string ⟨#[]⟩] 79) := (hb1.block _ (by simp)).trans (by show (w.heap.push _)[w.heap.size]? = _; simp)
    have d0 : w1.cell? ⟨w.heap.size, 0, none⟩ = some (.int .i64 0) := by rw [Lib.cell_of_heap HW]; rfl
    have d1 : w1.cell? ⟨w.heap.size, 1, none⟩ = some (.int .i64 0) := by rw [Lib.cell_of_heap HW]; rfl
    have d2 : w1.cell? ⟨w.heap.size, 2, none⟩ = some (.string ⟨#[]⟩) := by rw [Lib.cell_of_heap HW]; rfl
    have y0 : w1.frozen? ⟨w.heap.size, 0, none⟩ = false := by unfold World.frozen?; simp only [HW]; simp
    have y1 : w1.frozen? ⟨w.heap.size, 1, none⟩ = false := by unfold World.frozen?; simp only [HW]; simp
    have y2 : w1.frozen? ⟨w.heap.size, 2, none⟩ = false := by unfold World.frozen?; simp only [HW]; simp
    have hsw : w.heap.size < w1.heap.size := (Array.getElem?_eq_some_iff.1 HW).1
    have hN0 : N ≤ w.heap.size := HB.out.1.2.1
    have hne : w.heap.size ≠ R := by obtain ⟨_, _, hR0, _⟩ := HB.out; have := (Array.getElem?_eq_some_iff.1 hR0).1; omega
    unfold tokA
    simp only [headT]
    clear hr hR ht hb1 hf h HW
    go_wp2
    · have hr0 : r = [] := by
        rcases r with _ | ⟨x, r⟩
        · rfl
        · simp at hm1; omega
      have HT : TArg N w1 (.slice (some ⟨b, off, none⟩) r.length 0) r := by
        subst hr0
        exact ⟨_, _, rfl, ⟨Nat.le_refl _, Nat.zero_le _⟩, ⟨by simp, fun t ht => by (cases ht)⟩, fun i t hi => by (simp at hi)⟩
      refine bodyPost_ret (by simp [results, Tryz.results114, go_sem, *]; try rfl) rfl ?_
      exact ⟨_, rfl, rfl, pass_rd HR1.out HT hne hN0, pass_fr HB1.out⟩
    · have HT : TArg N w1 (.slice (some ⟨b, off + 3, none⟩) r.length (c - 1)) r := by
        obtain ⟨_, v2, hR2, a2, c2, hv2, hm2, ht2, hr2⟩ := HR1.out
        have hv3 : v2 = .slice (some ⟨b, off, none⟩) (t :: r).length c := by
          have h1 := c0
          rw [Lib.cell_of_heap hR2] at h1
          exact Option.some.inj h1
        rw [hv2] at hv3
        simp only [Value.slice.injEq] at hv3
        obtain ⟨rfl, _, rfl⟩ := hv3
        refine ⟨_, _, rfl, ⟨by simp at hm1; omega, by unfold maxLen; omega⟩, ⟨by have := ht2.1; simp at this; omega, fun x hx => ht2.2 x (List.mem_cons_of_mem _ hx)⟩, fun i x hi => ?_⟩
        obtain ⟨b', off', ha, hlt, q0, q1, q2⟩ := hr2 (i + 1) x (by simpa using hi)
        simp only [Option.some.injEq, Addr.mk.injEq, and_true] at ha
        obtain ⟨rfl, rfl⟩ := ha
        refine ⟨_, _, rfl, hlt, ?_, ?_, ?_⟩
        · rw [show off + 3 + i * 3 = off + (i + 1) * 3 by omega]; exact q0
        · rw [show off + 3 + i * 3 = off + (i + 1) * 3 by omega]; exact q1
        · rw [show off + 3 + i * 3 = off + (i + 1) * 3 by omega]; exact q2
      refine bodyPost_ret (by simp [results, Tryz.results114, go_sem, *]; try rfl) rfl ?_
      exact ⟨_, rfl, rfl, pass_rd HR1.out HT hne hN0, pass_fr HB1.out⟩
end Go.Proofs.YtggkbhafbhhhhabGreatDoor
