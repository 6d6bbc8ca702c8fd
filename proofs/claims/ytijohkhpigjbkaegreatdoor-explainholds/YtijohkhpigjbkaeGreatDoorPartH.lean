/-
  PART 8 of what the proof leans on (ClaA, ExpF, RefC, RefB, ModQ2, ModR, ModU, ClaB, ExpG, OpnA).
-/
import Derived.Test.YtijohkhpigjbkaeGreatDoorPartG
/-
  WALKS: package clause: Check, Holds, checkIn, Unit, Deny.
-/
namespace Go.Proofs.YtijohkhpigjbkaeGreatDoor
open Go.RowKit

def ccheckA (m : Mod) (c : Cla) : Int := if checkM m = 0 then claE m.vars c else checkM m
def choldsA (m : Mod) (c : Cla) (vals : List Int) : Bool × Int := if ccheckA m c = 0 then (if vals.length = m.vars.length then (claB c vals, 0) else (false, 1)) else (false, ccheckA m c)
def cinE (m : Mod) (s : Sto) (c : Cla) : Int := if checkL m [s] = 0 then claE m.vars c else checkL m [s]
def cunitA (m : Mod) (s : Sto) (c : Cla) : Sto × Int := if cinE m s c = 0 then (unitS s c, 0) else ([], cinE m s c)
def cdenyA (m : Mod) (s : Sto) (c : Cla) : Sto × Int := if cinE m s c = 0 then (denyS s c, 0) else ([], cinE m s c)
theorem cinE_ok (m : Mod) (s : Sto) (c : Cla) (h : cinE m s c = 0) : checkL m [s] = 0 ∧ claE m.vars c = 0 := by
  unfold cinE at h
  split at h
  · rename_i h0; exact ⟨h0, h⟩
  · contradiction
theorem ccheck_ok (m : Mod) (c : Cla) (h : ccheckA m c = 0) : checkM m = 0 ∧ claE m.vars c = 0 := by
  unfold ccheckA at h
  split at h
  · rename_i h0; exact ⟨h0, h⟩
  · contradiction
theorem claE_fine (vs : List MVar) (c : Cla) (h : claE vs c = 0) : ∀ l ∈ c, 0 ≤ l.var ∧ l.var < (vs.length : Int) := by
  unfold claE at h
  split at h
  · cases h
  · intro l hl
    exact ((litE_ok vs l).1 (firstE_all _ h _ (List.mem_map.2 ⟨l, hl, rfl⟩))).1

set_option maxHeartbeats 800000 in
set_option maxRecDepth 100000 in
theorem ccheck_any (m : Mod) (c : Cla) (vs cs u : Value) (w : World) (hm : MArg w vs cs m) (hu : LArg w u c) :
    Calls Tryz.prog 64 #[modV vs cs m, u] w fun e w' => e = .returned (.int .i64 (ccheckA m c)) ∧ Below w.heap.size w w' := by
  have HMA : Hid (∀ w' : World, Below w.heap.size w w' → MArg w' vs cs m) := fun w' h => MArg.below h hm
  have HUA : Hid (∀ w' : World, Below w.heap.size w w' → LArg w' u c) := fun w' h => LArg.below h hu
  obtain ⟨⟨a1, c1, rfl, _, _⟩, ⟨a2, c2, rfl, _, _⟩⟩ := hm
  obtain ⟨a3, c3, rfl, _, _⟩ := hu
  obtain ⟨R, hR⟩ : ∃ R, ccheckA m c = R := ⟨_, rfl⟩
  rw [hR]
  obtain ⟨er, her⟩ : ∃ er, checkM m = er := ⟨_, rfl⟩
  have HER : Hid (checkM m = er) := her
  have HE : Hid (R = if er = 0 then claE m.vars c else er) := by rw [← hR, ← her]; rfl
  clear hR her
  unfold modV
  go_enter Tryz.func64, Tryz.ntmps64
  go_wp2_with fail
  refine (check_model m (.slice a1 m.vars.length c1) (.slice a2 m.cons.length c2) _ ?_).mono ?_
  · exact HMA.out _ (below_alloc _ _)
  rintro e w1 ⟨rfl, hb1⟩
  rw [HER.out]
  have g0 : w1.cell? ⟨w.heap.size, 0, none⟩ = some (.slice a1 m.vars.length c1) := (hb1.cell (by simp)).trans (by simp)
  have HB1 : Hid (Below w.heap.size w w1) := (below_alloc _ _).trans (hb1.mono (by simp))
  clear hb1
  by_cases he : er = 0
  · subst he
    have HN : Hid (R = claE m.vars c) := by rw [HE.out, if_pos rfl]; rfl
    go_wp2_with fail
    refine (cla_check m.vars c _ _ _ (HMA.out _ HB1.out).1 (HUA.out _ HB1.out)).mono ?_
    rintro e w2 ⟨rfl, hb2⟩
    have hb3 : Below w.heap.size w w2 := HB1.out.trans (hb2.mono HB1.out.size)
    clear hb2
    go_wp2
    go_ret
    exact ⟨ret_int HN.out.symm, hb3⟩
  · have HN : Hid (R = er) := by rw [HE.out, if_neg he]; rfl
    have he2 : (er != 0) = true := by simpa using he
    clear he
    go_wp2
    go_ret
    exact ⟨ret_int HN.out.symm, HB1.out⟩

set_option maxHeartbeats 800000 in
set_option maxRecDepth 100000 in
theorem cin_any (m : Mod) (s : Sto) (c : Cla) (vs cs v u : Value) (w : World) (hm : MArg w vs cs m) (hv : RArg w v s) (hu : LArg w u c) :
    Calls Tryz.prog 115 #[modV vs cs m, v, u] w fun e w' => e = .returned (.int .i64 (cinE m s c)) ∧ Below w.heap.size w w' := by
  have HMA : Hid (∀ w' : World, Below w.heap.size w w' → MArg w' vs cs m) := fun w' h => MArg.below h hm
  have HVA : Hid (∀ w' : World, Below w.heap.size w w' → RArg w' v s) := fun w' h => RArg.below h hv
  have HUA : Hid (∀ w' : World, Below w.heap.size w w' → LArg w' u c) := fun w' h => LArg.below h hu
  obtain ⟨⟨a1, c1, rfl, _, _⟩, ⟨a2, c2, rfl, _, _⟩⟩ := hm
  obtain ⟨a3, c3, rfl, _, _⟩ := hv
  obtain ⟨a4, c4, rfl, _, _⟩ := hu
  obtain ⟨R, hR⟩ : ∃ R, cinE m s c = R := ⟨_, rfl⟩
  rw [hR]
  obtain ⟨er, her⟩ : ∃ er, checkL m [s] = er := ⟨_, rfl⟩
  have HER : Hid (checkL m [s] = er) := her
  have HE : Hid (R = if er = 0 then claE m.vars c else er) := by rw [← hR, ← her]; rfl
  clear hR her
  unfold modV
  go_enter Tryz.func115, Tryz.ntmps115
  go_wp2_with fail
  refine (scheck_any m s (.slice a1 m.vars.length c1) (.slice a2 m.cons.length c2) _ _ ?_ ?_).mono ?_
  · exact HMA.out _ (below_alloc _ _)
  · exact HVA.out _ (below_alloc _ _)
  rintro e w1 ⟨rfl, hb1⟩
  rw [HER.out]
  have g0 : w1.cell? ⟨w.heap.size, 0, none⟩ = some (.slice a1 m.vars.length c1) := (hb1.cell (by simp)).trans (by simp)
  have HB1 : Hid (Below w.heap.size w w1) := (below_alloc _ _).trans (hb1.mono (by simp))
  clear hb1
  by_cases he : er = 0
  · subst he
    have HN : Hid (R = claE m.vars c) := by rw [HE.out, if_pos rfl]; rfl
    go_wp2_with fail
    refine (cla_check m.vars c _ _ _ (HMA.out _ HB1.out).1 (HUA.out _ HB1.out)).mono ?_
    rintro e w2 ⟨rfl, hb2⟩
    have hb3 : Below w.heap.size w w2 := HB1.out.trans (hb2.mono HB1.out.size)
    clear hb2
    go_wp2
    go_ret
    exact ⟨ret_int HN.out.symm, hb3⟩
  · have HN : Hid (R = er) := by rw [HE.out, if_neg he]; rfl
    have he2 : (er != 0) = true := by simpa using he
    clear he
    go_wp2
    go_ret
    exact ⟨ret_int HN.out.symm, HB1.out⟩

set_option maxHeartbeats 800000 in
set_option maxRecDepth 100000 in
theorem cholds_any (m : Mod) (c : Cla) (vals : List Int) (vs cs u v : Value) (w : World) (hm : MArg w vs cs m) (hu : LArg w u c) (hv : IArg w v vals) :
    Calls Tryz.prog 25 #[modV vs cs m, u, v] w fun e w' => e = .returned (.tuple #[.bool (choldsA m c vals).1, .int .i64 (choldsA m c vals).2]) ∧ Below w.heap.size w w' := by
  have HMA : Hid (∀ w' : World, Below w.heap.size w w' → MArg w' vs cs m) := fun w' h => MArg.below h hm
  have HUA : Hid (∀ w' : World, Below w.heap.size w w' → LArg w' u c) := fun w' h => LArg.below h hu
  have HVA : Hid (∀ w' : World, Below w.heap.size w w' → IArg w' v vals) := fun w' h => IArg.below h hv
  obtain ⟨⟨a1, c1, rfl, _, _⟩, ⟨a2, c2, rfl, _, _⟩⟩ := hm
  obtain ⟨a3, c3, rfl, _, _⟩ := hu
  obtain ⟨a4, c4, rfl, _, _⟩ := hv
  obtain ⟨R, hR⟩ : ∃ R, choldsA m c vals = R := ⟨_, rfl⟩
  rw [hR]
  obtain ⟨er, her⟩ : ∃ er, ccheckA m c = er := ⟨_, rfl⟩
  have HER : Hid (ccheckA m c = er) := her
  have HE : Hid (R = if er = 0 then (if vals.length = m.vars.length then (claB c vals, 0) else (false, 1)) else (false, er)) := by rw [← hR, ← her]; rfl
  clear hR her
  unfold modV
  go_enter Tryz.func25, Tryz.ntmps25
  go_wp2_with fail
  refine (ccheck_any m c (.slice a1 m.vars.length c1) (.slice a2 m.cons.length c2) _ _ ?_ ?_).mono ?_
  · exact HMA.out _ (below_alloc _ _)
  · exact HUA.out _ (below_alloc _ _)
  rintro e w1 ⟨rfl, hb1⟩
  rw [HER.out]
  have g0 : w1.cell? ⟨w.heap.size, 0, none⟩ = some (.slice a1 m.vars.length c1) := (hb1.cell (by simp)).trans (by simp)
  have HB1 : Hid (Below w.heap.size w w1) := (below_alloc _ _).trans (hb1.mono (by simp))
  clear hb1
  by_cases he : er = 0
  · subst he
    by_cases hl : vals.length = m.vars.length
    · have HN : Hid (R = (c.any (litB vals), 0)) := by rw [HE.out, if_pos rfl, if_pos hl]; rfl
      have HCI : Hid (∀ l ∈ c, 0 ≤ l.var ∧ l.var < (vals.length : Int)) := by rw [hl]; exact claE_fine _ _ (ccheck_ok m c HER.out).2
      have hq : ((vals.length : Int) != (m.vars.length : Int)) = false := by simp [hl]
      clear hl
      go_wp2_with fail
      refine (clause_true c vals _ _ _ (HUA.out _ HB1.out) (HVA.out _ HB1.out) HCI.out).mono ?_
      rintro e w2 ⟨rfl, hb2⟩
      have hb3 : Below w.heap.size w w2 := HB1.out.trans (hb2.mono HB1.out.size)
      obtain ⟨B, hB⟩ : ∃ B, c.any (litB vals) = B := ⟨_, rfl⟩
      rw [hB] at HN ⊢
      clear hb2 hB
      go_wp2
      go_ret2
      exact ⟨by rw [HN.out]; rfl, hb3⟩
    · have HN : Hid (R = (false, 1)) := by rw [HE.out, if_pos rfl, if_neg hl]; rfl
      have hq : ((vals.length : Int) != (m.vars.length : Int)) = true := by simp; omega
      clear hl
      go_wp2
      go_ret2
      exact ⟨by rw [HN.out]; rfl, HB1.out⟩
  · have HN : Hid (R = (false, er)) := by rw [HE.out, if_neg he]; rfl
    have he2 : (er != 0) = true := by simpa using he
    clear he
    go_wp2
    go_ret2
    exact ⟨by rw [HN.out]; rfl, HB1.out⟩

set_option maxHeartbeats 800000 in
set_option maxRecDepth 100000 in
theorem cunit_any (m : Mod) (s : Sto) (c : Cla) (vs cs v u : Value) (w : World) (hm : MArg w vs cs m) (hv : RArg w v s) (hu : LArg w u c) :
    Calls Tryz.prog 62 #[modV vs cs m, v, u] w fun e w' => ∃ x, e = .returned (.tuple #[x, .int .i64 (cunitA m s c).2]) ∧ RArg w' x (cunitA m s c).1 ∧ Below w.heap.size w w' := by
  have HMA : Hid (∀ w' : World, Below w.heap.size w w' → MArg w' vs cs m) := fun w' h => MArg.below h hm
  have HVA : Hid (∀ w' : World, Below w.heap.size w w' → RArg w' v s) := fun w' h => RArg.below h hv
  have HUA : Hid (∀ w' : World, Below w.heap.size w w' → LArg w' u c) := fun w' h => LArg.below h hu
  obtain ⟨⟨a1, c1, rfl, _, _⟩, ⟨a2, c2, rfl, _, _⟩⟩ := hm
  obtain ⟨a3, c3, rfl, _, _⟩ := hv
  obtain ⟨a4, c4, rfl, _, _⟩ := hu
  obtain ⟨R, hR⟩ : ∃ R, cunitA m s c = R := ⟨_, rfl⟩
  rw [hR]
  obtain ⟨er, her⟩ : ∃ er, cinE m s c = er := ⟨_, rfl⟩
  have HER : Hid (cinE m s c = er) := her
  have HE : Hid (R = if er = 0 then (unitS s c, 0) else ([], er)) := by rw [← hR, ← her]; rfl
  clear hR her
  unfold modV
  go_enter Tryz.func62, Tryz.ntmps62
  go_wp2_with fail
  refine (cin_any m s c (.slice a1 m.vars.length c1) (.slice a2 m.cons.length c2) _ _ _ ?_ ?_ ?_).mono ?_
  · exact HMA.out _ (below_alloc _ _)
  · exact HVA.out _ (below_alloc _ _)
  · exact HUA.out _ (below_alloc _ _)
  rintro e w1 ⟨rfl, hb1⟩
  rw [HER.out]
  have HB1 : Hid (Below w.heap.size w w1) := (below_alloc _ _).trans (hb1.mono (by simp))
  clear hb1
  by_cases he : er = 0
  · subst he
    obtain ⟨o1, o2⟩ := cinE_ok m s c HER.out
    obtain ⟨o3, o4⟩ := (checkL_one m s).1 o1
    obtain ⟨hn6, hr6⟩ := rows_short m s o3 o4
    have HR6 : Hid (∀ r ∈ s, r.length ≤ 6) := hr6
    have HCI : Hid (ClaIn s c) := by intro l hl; rw [((checkV_ok _ _).1 o4).1]; exact claE_fine _ _ o2 l hl
    obtain ⟨hn7, hr7⟩ := rows_short m (unitS s c) o3 (checkV_unit m.vars s c o4)
    have HR7 : Hid (∀ r ∈ unitS s c, r.length ≤ 6) := hr7
    have HN : Hid (R = (unitS s c, 0)) := by rw [HE.out, if_pos rfl]; rfl
    clear o1 o2 o3 o4 hr6 hr7
    go_wp2_with fail
    refine (unit_any s c _ _ _ (HVA.out _ HB1.out) (HUA.out _ HB1.out) HCI.out hn6 HR6.out).mono ?_
    rintro e w2 ⟨x, rfl, hx, hb2⟩
    obtain ⟨M, hM⟩ : ∃ M, unitS s c = M := ⟨_, rfl⟩
    rw [hM] at hx HN hn7 HR7
    have HX : Hid (RArg w2 x M) := hx
    obtain ⟨ax, cx, rfl, _, _⟩ := hx
    have HB2 : Hid (Below w.heap.size w w2) := HB1.out.trans (hb2.mono HB1.out.size)
    clear hb2 hM
    go_wp2_with fail
    refine (all_any M _ _ HX.out hn7 HR7.out).mono ?_
    rintro e w3 ⟨y, rfl, hy, hb3⟩
    have HY : Hid (RArg w3 y M) := hy
    obtain ⟨ay, cy, rfl, _, _⟩ := hy
    have hB3 : Below w.heap.size w w3 := HB2.out.trans (hb3.mono HB2.out.size)
    clear hb3
    go_wp2
    go_ret2
    rw [HN.out]
    exact ⟨_, rfl, HY.out, hB3⟩
  · have HN : Hid (R = ([], er)) := by rw [HE.out, if_neg he]; rfl
    have he2 : (er != 0) = true := by simpa using he
    clear he
    go_wp2
    go_ret2
    rw [HN.out]
    exact ⟨_, rfl, ⟨_, _, rfl, ⟨Nat.le_refl _, Nat.zero_le _⟩, fun i r h => by simp at h⟩, HB1.out⟩

set_option maxHeartbeats 400000 in
set_option maxRecDepth 100000 in
theorem denied_any (c : Cla) (k : Nat) (z : Int) (u : Value) (bc : Nat) (w : World) (hu : LArg w u c) (h1 : w.cell? ⟨bc, 0, none⟩ = some u) :
    Calls Tryz.prog 118 #[.int .i64 (k : Int), .int .i64 z, .pointer (some ⟨bc, 0, none⟩)] w fun e w' => e = .returned (.bool (!oneB c k z)) ∧ Below w.heap.size w w' := by
  have HU : Hid (LArg w u c) := hu
  obtain ⟨a, cc, rfl, _, _⟩ := hu
  go_enter Tryz.func118, Tryz.ntmps118
  go_wp2_with fail
  refine (one_of c k z _ _ HU.out).mono ?_
  rintro e w1 ⟨rfl, hb1⟩
  go_wp2
  go_ret
  exact ⟨rfl, hb1⟩
theorem enters_denied (args : Array Value) (w' : World) : Sem.run Tryz.prog (callFunc 118 args) w' = .ok (.enter 118 args) w' := by
  simp [callFunc, go_sem, Tryz.func118, Tryz.f118]

set_option maxHeartbeats 800000 in
set_option maxRecDepth 100000 in
theorem cdeny_any (m : Mod) (s : Sto) (c : Cla) (vs cs v u : Value) (w : World) (hm : MArg w vs cs m) (hv : RArg w v s) (hu : LArg w u c) :
    Calls Tryz.prog 63 #[modV vs cs m, v, u] w fun e w' => ∃ x, e = .returned (.tuple #[x, .int .i64 (cdenyA m s c).2]) ∧ RArg w' x (cdenyA m s c).1 ∧ Below w.heap.size w w' := by
  have HMA : Hid (∀ w' : World, Below w.heap.size w w' → MArg w' vs cs m) := fun w' h => MArg.below h hm
  have HVA : Hid (∀ w' : World, Below w.heap.size w w' → RArg w' v s) := fun w' h => RArg.below h hv
  have HUA : Hid (∀ w' : World, Below w.heap.size w w' → LArg w' u c) := fun w' h => LArg.below h hu
  obtain ⟨⟨a1, c1, rfl, _, _⟩, ⟨a2, c2, rfl, _, _⟩⟩ := hm
  obtain ⟨a3, c3, rfl, _, _⟩ := hv
  obtain ⟨a4, c4, rfl, _, _⟩ := hu
  obtain ⟨R, hR⟩ : ∃ R, cdenyA m s c = R := ⟨_, rfl⟩
  rw [hR]
  obtain ⟨er, her⟩ : ∃ er, cinE m s c = er := ⟨_, rfl⟩
  have HER : Hid (cinE m s c = er) := her
  have HE : Hid (R = if er = 0 then (denyS s c, 0) else ([], er)) := by rw [← hR, ← her]; rfl
  clear hR her
  unfold modV
  go_enter Tryz.func63, Tryz.ntmps63
  go_wp2_with fail
  refine (cin_any m s c (.slice a1 m.vars.length c1) (.slice a2 m.cons.length c2) _ _ _ ?_ ?_ ?_).mono ?_
  · exact HMA.out _ (nb2 _ _ _)
  · exact HVA.out _ (nb2 _ _ _)
  · exact HUA.out _ (nb2 _ _ _)
  rintro e w1 ⟨rfl, hb1⟩
  rw [HER.out]
  have d1 : w1.cell? ⟨w.heap.size + 1, 0, none⟩ = some (.slice a4 c.length c4) := (hb1.cell (by simp)).trans (World.cell?_alloc_at _ _ _ 0 (by simp))
  have HB1 : Hid (Below w.heap.size w w1) := (nb2 _ _ _).trans (hb1.mono (by simp; omega))
  have hs1 : w.heap.size + 2 ≤ w1.heap.size := by simpa using hb1.size
  clear hb1
  by_cases he : er = 0
  · subst he
    obtain ⟨o1, o2⟩ := cinE_ok m s c HER.out
    obtain ⟨o3, o4⟩ := (checkL_one m s).1 o1
    obtain ⟨hn6, hr6⟩ := rows_short m s o3 o4
    have HR6 : Hid (∀ r ∈ s, r.length ≤ 6) := hr6
    have HN : Hid (R = (siftS s (fun k z => !oneB c k z), 0)) := by rw [HE.out, if_pos rfl]; rfl
    clear o1 o2 o3 o4 hr6
    go_wp2_with fail
    refine (sift_any 118 _ s (fun k z => !oneB c k z) _ _ (HVA.out _ HB1.out) ⟨enters_denied, ?_⟩ hn6 HR6.out).mono ?_
    · intro k q z w' hk _ hb'
      exact denied_any c k z _ (w.heap.size + 1) w' (HUA.out _ (HB1.out.trans (hb'.mono HB1.out.size))) ((hb'.cell (by simp only; omega)).trans d1)
    rintro e w2 ⟨x, rfl, hx, hb2⟩
    obtain ⟨M, hM⟩ : ∃ M, siftS s (fun k z => !oneB c k z) = M := ⟨_, rfl⟩
    rw [hM] at hx HN
    have HX : Hid (RArg w2 x M) := hx
    obtain ⟨ax, cx, rfl, _, _⟩ := hx
    have hB2 : Below w.heap.size w w2 := HB1.out.trans (hb2.mono HB1.out.size)
    clear hb2 hM
    go_wp2
    go_ret2
    rw [HN.out]
    exact ⟨_, rfl, HX.out, hB2⟩
  · have HN : Hid (R = ([], er)) := by rw [HE.out, if_neg he]; rfl
    have he2 : (er != 0) = true := by simpa using he
    clear he
    go_wp2
    go_ret2
    rw [HN.out]
    exact ⟨_, rfl, ⟨_, _, rfl, ⟨Nat.le_refl _, Nat.zero_le _⟩, fun i r h => by simp at h⟩, HB1.out⟩
end Go.Proofs.YtijohkhpigjbkaeGreatDoor
/-
  PLAIN: where the constraint holds, what explain answers holds.
-/
namespace Go.Proofs.YtijohkhpigjbkaeGreatDoor

theorem holdsA_of (m : Mod) (con : Int) (vals : List Int) (h : holdsA m con vals = (true, 0)) : holdsC (conOf m con) vals = true := by
  unfold holdsA at h
  by_cases h0 : conCheck m con = 0
  · rw [if_pos h0] at h
    by_cases h1 : vals.length = m.vars.length
    · rw [if_pos h1] at h
      by_cases h2 : vals.all (fun x => inB x 50) = true
      · rw [if_pos h2] at h
        exact congrArg Prod.fst h
      · rw [if_neg h2] at h; cases h
    · rw [if_neg h1] at h; cases h
  · rw [if_neg h0] at h; cases h
theorem cholds_of (m : Mod) (c : Cla) (vals : List Int) (hm : checkM m = 0) (hc : claE m.vars c = 0) (hv : hasS (beginS m.vars) vals = true) (hh : claB c vals = true) : choldsA m c vals = (true, 0) := by
  have hl := (maybe_of m.vars vals hv).1
  unfold choldsA ccheckA
  rw [if_pos hm, hc, if_pos rfl, if_pos hl, hh]
theorem rowx_bounds (vs : List MVar) (s : Sto) (hs : checkV vs s = 0) (k : Nat) (hk : k < vs.length) (x : Int) (hx : x ∈ s.getD k []) : (varAt vs k).lo ≤ x ∧ x ≤ (varAt vs k).hi := by
  obtain ⟨h1, h2, _⟩ := (checkV_ok _ _).1 hs
  unfold rangeS at h2
  rw [all_zip] at h2
  have hks : k < s.length := by omega
  have e1 : vs[k]? = some (varAt vs k) := by unfold varAt; rw [List.getD_eq_getElem?_getD, List.getElem?_eq_getElem hk]; rfl
  have e2 : s[k]? = some (s.getD k []) := by rw [List.getD_eq_getElem?_getD, List.getElem?_eq_getElem hks]; rfl
  have h3 := List.all_eq_true.1 (h2 k _ _ e1 e2) x hx
  unfold insideB at h3
  simpa using h3
theorem prem_holds (m : Mod) (con : Int) (s : Sto) (v x : Int) (vals : List Int) (L : Cla) (h : premA m con s v x = (L, true, 0)) (hv : hasS (beginS m.vars) vals = true) (hh : holdsA m con vals = (true, 0)) : choldsA m L vals = (true, 0) := by
  have hC := holdsA_of m con vals hh
  unfold premA at h
  by_cases h0 : (filterA m con s).2 = 0
  · rw [if_pos h0] at h
    obtain ⟨o1, o2, j, c, hcon, hc, hcc, hfs⟩ := filterA_ok m con s h0
    have hsl := ((checkV_ok _ _).1 o2).1
    rw [hcc] at h hC
    rw [hfs] at h
    by_cases h1 : v < 0 ∨ (m.vars.length : Int) ≤ v
    · rw [if_pos h1] at h; cases h
    · rw [if_neg h1] at h
      by_cases h2 : (!hasB (s.getD v.toNat []) x || hasB ((filterS c s).getD v.toNat []) x) = true
      · rw [if_pos h2] at h; cases h
      · rw [if_neg h2] at h
        have hL := (congrArg Prod.fst h).symm
        dsimp only at hL
        subst hL
        have h3 : hasB (s.getD v.toNat []) x = true ∧ hasB ((filterS c s).getD v.toNat []) x = false := by
          cases ha : hasB (s.getD v.toNat []) x <;> cases hb : hasB ((filterS c s).getD v.toNat []) x <;> simp_all
        obtain ⟨h4, h5⟩ := h3
        have hx := (hasB_iff _ _).1 h4
        have hk : v.toNat < m.vars.length := by omega
        have hb := rowx_bounds m.vars s o2 _ hk x hx
        have hvb := vars_bounds m o1 _ hk
        have hany : ∀ l ∈ [notL v.toNat x], litE m.vars l = 0 := by
          intro l hl
          rw [List.mem_singleton.1 hl]
          unfold litE notL
          simp only
          rw [if_neg (by omega), if_neg (by omega), if_neg (by omega)]
        have hks : v.toNat < s.length := by omega
        have e2 : s[v.toNat]? = some (s.getD v.toNat []) := by rw [List.getD_eq_getElem?_getD, List.getElem?_eq_getElem hks]; rfl
        have hst : staysB c s v.toNat x = false := by
          cases hq : staysB c s v.toNat x
          · rfl
          · have : x ∈ (filterS c s).getD v.toNat [] := by
              unfold filterS
              rw [List.getD_eq_getElem?_getD, siftS_get _ _ _ _ e2]
              exact List.mem_filter.2 ⟨hx, hq⟩
            rw [(hasB_iff _ _).2 this] at h5
            cases h5
        obtain ⟨k1, k2⟩ := scope_in m o1 j c hc
        refine cholds_of m _ vals o1 (reason_right m o1 c s _ (by simp) hany) hv (reason_holds m o1 j c hc s _ hany ?_ vals hv hC)
        refine says_removed m.vars (vars_okP m o1) c k1 k2 s hsl v.toNat _ [x] (fun z hz => by rw [List.mem_singleton.1 hz]; exact hst) (by simp) fun y hy ho => ?_
        unfold oneB notL litV at ho
        simp at ho
        simp [ho]
  · rw [if_neg h0] at h; cases h
theorem pfail_holds (m : Mod) (con : Int) (s : Sto) (vals : List Int) (L : Cla) (h : pfailA m con s = (L, true, 0)) (hv : hasS (beginS m.vars) vals = true) (hh : holdsA m con vals = (true, 0)) : choldsA m L vals = (true, 0) := by
  have hC := holdsA_of m con vals hh
  unfold pfailA at h
  by_cases h0 : (filterA m con s).2 = 0
  · rw [if_pos h0] at h
    obtain ⟨o1, o2, j, c, hcon, hc, hcc, hfs⟩ := filterA_ok m con s h0
    have hsl := ((checkV_ok _ _).1 o2).1
    rw [hcc] at h hC
    rw [hfs] at h
    by_cases h2 : (failedS s || !failedS (filterS c s)) = true
    · rw [if_pos h2] at h; cases h
    · rw [if_neg h2] at h
      have hL := (congrArg Prod.fst h).symm
      dsimp only at hL
      subst hL
      have h3 : failedS s = false ∧ failedS (filterS c s) = true := by
        cases ha : failedS s <;> cases hb : failedS (filterS c s) <;> simp_all
      obtain ⟨h4, h5⟩ := h3
      unfold failedS at h5
      obtain ⟨q, hq, hq0⟩ := List.any_eq_true.1 h5
      obtain ⟨k, hk⟩ := List.mem_iff_getElem?.1 hq
      unfold filterS at hk
      obtain ⟨r, hr, rfl⟩ := siftS_back _ _ _ _ hk
      have e2 : s.getD k [] = r := by rw [List.getD_eq_getElem?_getD, hr]; rfl
      have hrn : r ≠ [] := by
        intro he
        subst he
        have : failedS s = true := List.any_eq_true.2 ⟨[], List.mem_of_getElem? hr, by simp⟩
        rw [this] at h4
        cases h4
      have hst : ∀ z ∈ r, staysB c s k z = false := by
        intro z hz
        have h6 : r.filter (staysB c s k) = [] := List.eq_nil_of_length_eq_zero (by simpa using hq0)
        have := List.filter_eq_nil_iff.1 h6 z hz
        simpa using this
      obtain ⟨k1, k2⟩ := scope_in m o1 j c hc
      refine cholds_of m _ vals o1 (reason_right m o1 c s _ (by simp) (fun l hl => by cases hl)) hv (reason_holds m o1 j c hc s _ (fun l hl => by cases hl) ?_ vals hv hC)
      exact says_removed m.vars (vars_okP m o1) c k1 k2 s hsl k _ r hst hrn fun y hy ho => by rw [← e2]; exact hy
  · rw [if_neg h0] at h; cases h
end Go.Proofs.YtijohkhpigjbkaeGreatDoor
/-
  WALK: the reference's BeginOf.
-/
namespace Go.Proofs.YtijohkhpigjbkaeGreatDoor
open Go.RowKit

theorem own_types {w : World} {b1 b2 s1 s2 n1 n2 : Nat} {t1 t2 : TypeId} {x v : Value} {xs ys : List Value} (h1 : w.ownsRow b1 t1 s1 x n1 xs) (h2 : w.ownsRow b2 t2 s2 v n2 ys) (ht : t1 ≠ t2) : x.ownBlock = none ∨ x.ownBlock ≠ v.ownBlock := by
  rcases h1.2 with ⟨rfl, _⟩ | ⟨g, cap, cur, rfl, _, hh, _⟩
  · exact Or.inl rfl
  · rcases h2.2 with ⟨rfl, _⟩ | ⟨g2, cap2, cur2, rfl, _, hh2, _⟩
    · exact Or.inr (fun h => by cases h)
    · refine Or.inr fun h => ?_
      have hg : g = g2 := by injection h
      subst hg
      rw [hh] at hh2
      injection hh2 with h9
      injection h9 with _ h8
      exact ht h8
/-- A store that is built row by row. -/
def BRows (N : Nat) (v : Value) (cells : List Value) (M : Sto) (k : Nat) (w : World) : Prop :=
  w.ownsRow N 39 1 v k cells ∧ ∀ j r, j < k → M[j]? = some r → ∃ x, cells[j]? = some x ∧ w.ownsRow N 3 1 x r.length (r.map (Value.int .i64))
theorem BRows.below {N k : Nat} {v : Value} {cells : List Value} {M : Sto} {w w' : World} (h : BRows N v cells M k w) (hb : Below w.heap.size w w') : BRows N v cells M k w' := by
  refine ⟨own_below h.1 hb, fun j r hj hr => ?_⟩
  obtain ⟨x, h1, h2⟩ := h.2 j r hj hr
  exact ⟨x, h1, own_below h2 hb⟩
theorem BRows.push {N k : Nat} {v v' x : Value} {cells : List Value} {M : Sto} {r : List Int} {w w' : World} (h : BRows N v cells M k w) (hr : M[k]? = some r) (hx : w.ownsRow N 3 1 x r.length (r.map (Value.int .i64))) (hw : w'.ownsRow N 39 1 v' (k + 1) (cells ++ [x])) (hg : w.grownBy w' v.ownBlock) : BRows N v' (cells ++ [x]) M (k + 1) w' := by
  have hlen : cells.length = k := by have := h.1.1; omega
  have keep : ∀ {y : Value} {q : List Int}, w.ownsRow N 3 1 y q.length (q.map (Value.int .i64)) → w'.ownsRow N 3 1 y q.length (q.map (Value.int .i64)) := fun hy => hy.kept hg (own_types hy h.1 (by decide))
  refine ⟨hw, fun j q hj hq => ?_⟩
  by_cases hjk : j = k
  · subst hjk
    rw [hr] at hq
    cases hq
    exact ⟨x, by rw [List.getElem?_append_right (by omega), hlen]; simp, keep hx⟩
  · obtain ⟨y, h1, h2⟩ := h.2 j q (by omega) hq
    exact ⟨y, by rw [List.getElem?_append_left (by omega)]; exact h1, keep h2⟩
theorem BRows.arg {N : Nat} {v : Value} {cells : List Value} {M : Sto} {w : World} (h : BRows N v cells M M.length w) : RArg w v M := by
  rcases h.1.2 with ⟨rfl, hn⟩ | ⟨g, cap, cur, rfl, hg, hh, hc1, hc2, _, _⟩
  · have : M = [] := List.eq_nil_of_length_eq_zero hn
    subst this
    exact ⟨none, 0, rfl, ⟨Nat.le_refl _, Nat.zero_le _⟩, fun i z hz => by simp at hz⟩
  · refine ⟨_, cap, rfl, ⟨hc1, hc2⟩, fun i r hr => ?_⟩
    have hi : i < M.length := (List.getElem?_eq_some_iff.1 hr).1
    obtain ⟨x, h1, h2⟩ := h.2 i r hi hr
    exact ⟨g, 0, x, rfl, (Array.getElem?_eq_some_iff.1 hh).1, by rw [Nat.zero_add, h.1.cellAt i (by omega)]; exact h1, own_ints h2⟩
theorem Tryz.infoIntsR : (Tryz.prog.info? 39).map (fun i => (i.zero, i.size, i.bytes)) = some (some (.slice none 0 0), 1, 24) := by kernel_rfl
theorem Tryz.underStoreR : Tryz.prog.underlying 27 = some (.slice 39) := by kernel_rfl
theorem wpList_append_row {w : World} {ops : Array Oper} {rest : List Oper} {o : Oper} {a : Act} {Q : Exit → Act → World → Prop} (hgd : o.guard = none) (s x : Operand)
    (ho : o.op = .call { callee := .builtin .append, args := #[s, x], argTypes := #[27, 27] }) (base : Nat)
    (v : Value) (k : Nat) (cells : List Value) (hs : a.eval s = v) (hown : w.ownsRow base 39 1 v k cells)
    (g : Nat) (y : Value) (hy : y.oneCell' = true) (hx : a.eval x = .slice (some ⟨g, 0, none⟩) 1 1) (hc : w.cell? ⟨g, 0, none⟩ = some y) (hk : k ≤ 1000) (hbase : base ≤ w.heap.size)
    (h : ∀ v' w', w'.ownsRow base 39 1 v' (k + 1) (cells ++ [y]) → w.grownBy w' v.ownBlock → wpList Tryz.prog ops Q rest (a.put o.dst v') w') : wpList Tryz.prog ops Q (o :: rest) a w := by
  obtain ⟨i1, hi1, hy0, hy1, hy2⟩ := info_parts Tryz.infoIntsR
  refine wpList_append_own w hgd s x 27 ho base 39 i1 (.slice none 0 0) 1 24 Tryz.underStoreR hi1 hy0 hy1 hy2 rfl (by decide) v k cells hs hown ⟨g, 0, none⟩ 1 1 [y] hx rfl ?_ ?_ (by unfold maxLen; omega) (by omega) hbase ?_
  · intro j u hj
    match j, hj with
    | 0, hj => simp at hj; subst hj; rw [add_at]; exact hc
  · intro u hu
    rcases List.mem_singleton.1 hu with rfl
    exact hy
  · intro v' w' h1 h2 _
    exact h v' w' h1 h2

set_option maxHeartbeats 3200000 in
set_option maxRecDepth 100000 in
theorem rbegin_any (m : Mod) (hm : checkM m = 0) (vs cs : Value) (w : World) (hma : MArg w vs cs m) :
    Calls Tryz.prog 24 #[modV vs cs m] w fun e w' => ∃ x, e = .returned x ∧ RArg w' x (beginS m.vars) ∧ Below w.heap.size w w' := by
  have HVA : Hid (VarsAll m.vars) := vars_all m hm
  have h6 : m.vars.length ≤ 6 := (checkM_vars m hm).2.1
  obtain ⟨⟨a1, c1, rfl, hl1, hr1⟩, ⟨a2, c2, rfl, _, _⟩⟩ := hma
  have HV1 : Hid (∀ (i : Nat) (t : MVar), m.vars[i]? = some t → t.name.size ≤ maxLen ∧ ∃ b off, a1 = some ⟨b, off, none⟩ ∧ b < w.heap.size ∧
    w.cell? ⟨b, off + i * 3, none⟩ = some (.string t.name) ∧ w.cell? ⟨b, off + i * 3 + 1, none⟩ = some (.int .i64 t.lo) ∧ w.cell? ⟨b, off + i * 3 + 2, none⟩ = some (.int .i64 t.hi)) := hr1
  unfold maxLen at hl1
  obtain ⟨hl11, hl1⟩ := hl1
  obtain ⟨i0, hi, hz0, hz1, hz2⟩ := info_parts Tryz.infoInt
  obtain ⟨i1, hi1, hy0, hy1, hy2⟩ := info_parts Tryz.infoIntsR
  have HML : Hid ((beginS m.vars).length = m.vars.length) := by show _ = _; simp [beginS]
  unfold modV
  clear hr1 hm
  go_enter Tryz.func24, Tryz.ntmps24
  go_wp2_with fail
  have HB0 : Hid (Below w.heap.size w (w.alloc (.cells #[.slice a1 m.vars.length c1, .slice a2 m.cons.length c2, .int .i64 m.goal, .int .i64 m.var] 25))) := below_alloc _ _
  have HK0 : Hid ((w.alloc (.cells #[.slice a1 m.vars.length c1, .slice a2 m.cons.length c2, .int .i64 m.goal, .int .i64 m.var] 25)).cell? ⟨w.heap.size, 0, none⟩ = some (.slice a1 m.vars.length c1)) := World.cell?_alloc_at _ _ _ 0 (by simp)
  have HL0 : Hid ((w.alloc (.cells #[.slice a1 m.vars.length c1, .slice a2 m.cons.length c2, .int .i64 m.goal, .int .i64 m.var] 25)).heap.size = w.heap.size + 1) := by show _ = _; simp
  obtain ⟨W, hW⟩ : ∃ W, w.alloc (.cells #[.slice a1 m.vars.length c1, .slice a2 m.cons.length c2, .int .i64 m.goal, .int .i64 m.var] 25) = W := ⟨_, rfl⟩
  rw [hW] at HB0 HK0 HL0 ⊢
  clear hW
  go_loopw [3, 4] (fun o i wr => ∃ (k : Nat) (cells : List Value), k ≤ m.vars.length ∧ i = .int .i64 k ∧ BRows W.heap.size o cells (beginS m.vars) k wr ∧ Below W.heap.size W wr) (fun _ i _ => m.vars.length - (intOf i).toNat)
  case atStart => exact ⟨0, [], by omega, rfl, ⟨World.ownsRow_nil _ _ _ _, fun j r hj => by omega⟩, Below.refl _ _⟩
  case round =>
    obtain ⟨k, cells, hk, rfl, hrow, hbw⟩ := hrel
    have HROW : Hid (BRows W.heap.size u3 cells (beginS m.vars) k wr) := hrow
    have HBW : Hid (Below W.heap.size W wr) := hbw
    have HBN : Hid (Below w.heap.size w wr) := HB0.out.trans (hbw.mono HB0.out.size)
    have k0 := (hbw.cell (p := ⟨w.heap.size, 0, none⟩) (by rw [HL0.out]; simp)).trans HK0.out
    obtain ⟨ao, co, rfl⟩ := own_form hrow.1
    clear hrow hbw
    by_cases hlt : k < m.vars.length
    · obtain ⟨t, ht⟩ : ∃ t, m.vars[k]? = some t := ⟨m.vars[k], by simp [hlt]⟩
      have HMK : Hid ((beginS m.vars)[k]? = some (spanN t.lo (t.hi + 1 - t.lo).toNat)) := by show _ = _; unfold beginS; rw [List.getElem?_map, ht]; rfl
      have hvt : varAt m.vars k = t := by unfold varAt; rw [List.getD_eq_getElem?_getD, ht]; rfl
      have hbn := HVA.out.2 k hlt
      have hsz := HVA.out.1.2 k
      unfold sizeV at hsz
      rw [hvt] at hbn hsz
      obtain ⟨_, b, off, hax, hb, e0, e1, e2⟩ := HV1.out k t ht
      subst hax
      obtain ⟨lo, hlo⟩ : ∃ lo, t.lo = lo := ⟨_, rfl⟩
      obtain ⟨hh, hhi⟩ : ∃ hh, t.hi = hh := ⟨_, rfl⟩
      rw [hlo] at e1 hbn hsz HMK
      rw [hhi] at e2 hbn hsz HMK
      have f1 := (HBN.out.cell (p := ⟨b, off + k * 3 + 1, none⟩) hb).trans e1
      have HF : Hid (∀ Y, Below wr.heap.size wr Y → Y.cell? ⟨w.heap.size, 0, none⟩ = some (.slice (some ⟨b, off, none⟩) m.vars.length c1) ∧ Y.cell? ⟨b, off + k * 3 + 2, none⟩ = some (.int .i64 hh)) := fun Y hY =>
        ⟨(hY.cell (p := ⟨w.heap.size, 0, none⟩) (World.block_lt_of_cell? wr _ k0)).trans k0, (hY.cell (p := ⟨b, off + k * 3 + 2, none⟩) (Nat.lt_of_lt_of_le hb HBN.out.size)).trans ((HBN.out.cell (p := ⟨b, off + k * 3 + 2, none⟩) hb).trans e2)⟩
      obtain ⟨wo, hwo⟩ : ∃ wo : World, wo = wr := ⟨_, rfl⟩
      clear ht e0 e1 e2 hvt hlo hhi
      go_wp2_with fail
      rw [← hwo] at HROW HBW HBN HF ⊢
      clear k0 f1 hwo hb
      go_loopw [5, 6] (fun l n wx => ∃ j : Nat, lo + (j : Int) ≤ hh + 1 ∧ n = .int .i64 (lo + (j : Int)) ∧ wx.ownsRow wo.heap.size 3 1 l (spanN lo j).length ((spanN lo j).map (Value.int .i64)) ∧ Below wo.heap.size wo wx) (fun _ n _ => (hh + 1 - intOf n).toNat)
      case atStart => exact ⟨0, by omega, by simp, World.ownsRow_nil _ _ _ _, Below.refl _ _⟩
      case round =>
        obtain ⟨j, hj, rfl, hown, hbx⟩ := hrel
        have HBX : Hid (Below wo.heap.size wo wr) := hbx
        obtain ⟨k0, f2⟩ := HF.out _ hbx
        obtain ⟨acc, hacc⟩ : ∃ acc, spanN lo j = acc := ⟨_, rfl⟩
        have hal : acc.length ≤ 6 := by rw [← hacc, spanN_len]; omega
        have HAC : Hid (spanN lo j = acc) := hacc
        rw [hacc] at hown
        have HOW : Hid (wr.ownsRow wo.heap.size 3 1 u5 acc.length (acc.map (Value.int .i64))) := hown
        obtain ⟨al, cl, rfl⟩ := own_form hown
        clear hacc hbx
        by_cases hlj : lo + (j : Int) ≤ hh
        · obtain ⟨z, hz⟩ : ∃ z, z = lo + (j : Int) := ⟨_, rfl⟩
          have HZ : Hid (z = lo + (j : Int)) := hz
          have HN : Hid (spanN lo (j + 1) = acc ++ [z]) := by show _ = _; rw [← HAC.out, hz]; exact spanN_next lo j
          have hzb : -50 ≤ z ∧ z ≤ 50 ∧ z ≤ hh := by omega
          have HJ : Hid (lo + ((j + 1 : Nat) : Int) ≤ hh + 1) := by show _ ≤ _; omega
          rw [← hz]
          clear hz hlj hj
          go_wp2_with (at_builtin; refine wpList_append_own _ rfl _ _ 39 rfl wo.heap.size 3 i0 (.int .i64 0) 1 8 Tryz.underlying39 hi hz0 hz1 hz2 rfl (by decide) _ _ _ rfl (hown.alloc _) ⟨wr.heap.size, 0, none⟩ 1 1 [.int .i64 z] rfl rfl ?c1 ?c2 ?c3 ?c4 ?c5 ?_)
          case c1 => exact one_laid wr z
          case c2 => intro u hu; rcases List.mem_singleton.1 hu with rfl; rfl
          case c3 => unfold maxLen; omega
          case c4 => omega
          case c5 => have := HBX.out.size; simp; omega
          intro v3 w3 hown3 hgrow _
          have HO3 : Hid (w3.ownsRow wo.heap.size 3 1 v3 (spanN lo (j + 1)).length ((spanN lo (j + 1)).map (Value.int .i64))) := by
            show w3.ownsRow _ _ _ _ _ _
            rw [HN.out, List.length_append, List.map_append]; exact hown3
          have HB3 : Hid (Below wo.heap.size wo w3) := (HBX.out.alloc HBX.out.size _).grown hgrow (by have := HBX.out.size; simp; omega) (fun g h => (hown.lt g h).1)
          clear hown3 hgrow hown k0 f2
          go_wp2
          go_roundw
          case rel => exact ⟨j + 1, HJ.out, by rw [HZ.out]; go_num, HO3.out, HB3.out⟩
          case measure => simp [intOf]; omega
        · have hje : j = (hh + 1 - lo).toNat := by omega
          have HMK2 : Hid ((beginS m.vars)[k]? = some acc) := by show _ = _; rw [HMK.out, ← HAC.out, hje]
          have HR2 : Hid (BRows W.heap.size (.slice ao k co) cells (beginS m.vars) k wr) := HROW.out.below HBX.out
          have HOL : Hid (wr.ownsRow W.heap.size 3 1 (.slice al acc.length cl) acc.length (acc.map (Value.int .i64))) := ⟨HOW.out.1, by
            rcases HOW.out.2 with h | ⟨g, cap, cur, h1, h2, h3⟩
            · exact Or.inl h
            · exact Or.inr ⟨g, cap, cur, h1, Nat.le_trans HBW.out.size h2, h3⟩⟩
          have HBF : Hid (Below W.heap.size W wr) := HBW.out.trans (HBX.out.mono HBW.out.size)
          have hout := HR2.out.1
          have hclen : cells.length = k := by have := hout.1; omega
          clear hje hown
          clear hclen
          go_wp2_with (at_builtin; refine wpList_append_row rfl _ _ rfl W.heap.size _ k cells rfl (hout.alloc _) wr.heap.size (.slice al acc.length cl) rfl rfl ?c1 ?c2 ?c3 ?_)
          case c2 => omega
          case c3 => have := HBF.out.size; simp; omega
          intro v3 w3 hown3 hgrow
          have HP3 : Hid (BRows W.heap.size v3 (cells ++ [.slice al acc.length cl]) (beginS m.vars) (k + 1) w3) := (HR2.out.below (below_alloc _ _)).push HMK2.out (HOL.out.alloc _) hown3 hgrow
          have HB3 : Hid (Below W.heap.size W w3) := (HBF.out.alloc HBF.out.size _).grown hgrow (by have := HBF.out.size; simp; omega) (fun g h => (hout.lt g h).1)
          clear hown3 hgrow hout
          go_wp2
          go_roundw
          case rel => exact ⟨k + 1, _, by omega, by go_num, HP3.out, HB3.out⟩
          case measure => simp [intOf]; omega
    · have hke : k = m.vars.length := by omega
      have HF : Hid (RArg wr (.slice ao k co) (beginS m.vars)) := by
        have h := HROW.out
        have h2 : BRows W.heap.size (.slice ao k co) cells (beginS m.vars) (beginS m.vars).length wr := by rw [HML.out, ← hke]; exact h
        exact h2.arg
      clear hke
      go_wp2
      go_ret
      exact ⟨_, rfl, HF.out, HBN.out⟩
end Go.Proofs.YtijohkhpigjbkaeGreatDoor
/-
  WALKS: the reference's HasInt, HasFailed; the statements' has.
-/
namespace Go.Proofs.YtijohkhpigjbkaeGreatDoor
open Go.RowKit

theorem hasB_flip (l : List Int) (n : Int) : hasB l n = l.any fun k => k == n := by
  unfold hasB
  congr 1
  funext k
  exact Bool.beq_comm
set_option maxHeartbeats 400000 in
set_option maxRecDepth 100000 in
theorem hasint_any (l : List Int) (v : Value) (n : Int) (w : World) (hv : IArg w v l) :
    Calls Tryz.prog 17 #[v, .int .i64 n] w fun e w' => e = .returned (.bool (hasB l n)) ∧ w' = w := by
  obtain ⟨a, c, rfl, hm, hr⟩ := hv
  have HV : Hid (∀ (i : Nat) (z : Int), l[i]? = some z → ∃ b off, a = some ⟨b, off, none⟩ ∧ b < w.heap.size ∧ w.cell? ⟨b, off + i, none⟩ = some (.int .i64 z)) := hr
  obtain ⟨R, hR⟩ : ∃ R, hasB l n = R := ⟨_, rfl⟩
  rw [hR]
  have HR : Hid ((l.any fun k => k == n) = R) := by show _ = _; rw [← hR, hasB_flip]
  unfold maxLen at hm
  obtain ⟨hm1, hm⟩ := hm
  clear hr hR
  go_enter Tryz.func17, Tryz.ntmps17
  go_wp2_with fail
  go_loop [5] (fun i => ∃ m : Nat, m ≤ l.length ∧ i = .int .i64 m ∧ Hid ((l.take m).any (fun k => k == n) = false)) (fun i => l.length - (intOf i).toNat)
  case atStart => exact ⟨0, by omega, rfl, rfl⟩
  case round =>
    obtain ⟨m, hml, rfl, hall⟩ := hrel
    by_cases hlt : m < l.length
    · obtain ⟨z, hz⟩ : ∃ z, l[m]? = some z := ⟨l[m], by simp [hlt]⟩
      obtain ⟨b, off, ha, hb, hc⟩ := HV.out m z hz
      have HZ : Hid (l[m]? = some z) := hz
      subst ha
      clear hz
      cases hq : (z == n)
      · have HN : Hid ((l.take (m + 1)).any (fun k => k == n) = false) := any_next (fun k => k == n) l m z HZ.out hall.out hq
        go_wp2
        go_round
        case rel => exact ⟨m + 1, by omega, by go_num, HN⟩
        case measure => simp [intOf]; omega
      · have HN : Hid (R = true) := by rw [← HR.out]; exact any_hit (fun k => k == n) l m z HZ.out hq
        go_wp2
        go_ret
        exact ⟨ret_bool HN.out.symm, rfl⟩
    · have HN : Hid (R = false) := by rw [← HR.out]; exact any_end _ l m hlt hall.out
      go_wp2
      go_ret
      exact ⟨ret_bool HN.out.symm, rfl⟩

set_option maxHeartbeats 400000 in
set_option maxRecDepth 100000 in
theorem hasfailed_any (s : Sto) (v : Value) (w : World) (hv : RArg w v s) :
    Calls Tryz.prog 16 #[v] w fun e w' => e = .returned (.bool (failedS s)) ∧ w' = w := by
  obtain ⟨a, c, rfl, hm, hr⟩ := hv
  have HV : Hid (∀ (i : Nat) (r : List Int), s[i]? = some r → ∃ b off x, a = some ⟨b, off, none⟩ ∧ b < w.heap.size ∧ w.cell? ⟨b, off + i, none⟩ = some x ∧ IArg w x r) := hr
  obtain ⟨R, hR⟩ : ∃ R, failedS s = R := ⟨_, rfl⟩
  rw [hR]
  have HR : Hid ((s.any fun r => decide (r.length = 0)) = R) := hR
  unfold maxLen at hm
  obtain ⟨hm1, hm⟩ := hm
  clear hr hR
  go_enter Tryz.func16, Tryz.ntmps16
  go_wp2_with fail
  go_loop [3] (fun i => ∃ m : Nat, m ≤ s.length ∧ i = .int .i64 m ∧ Hid ((s.take m).any (fun r => decide (r.length = 0)) = false)) (fun i => s.length - (intOf i).toNat)
  case atStart => exact ⟨0, by omega, rfl, rfl⟩
  case round =>
    obtain ⟨m, hml, rfl, hall⟩ := hrel
    by_cases hlt : m < s.length
    · obtain ⟨r, hz⟩ : ∃ r, s[m]? = some r := ⟨s[m], by simp [hlt]⟩
      obtain ⟨b, off, x, ha, hb, hc, hx⟩ := HV.out m r hz
      obtain ⟨a5, c5, rfl, _, _⟩ := hx
      have HZ : Hid (s[m]? = some r) := hz
      subst ha
      clear hz
      by_cases h0 : r.length = 0
      · have HN : Hid (R = true) := by rw [← HR.out]; exact any_hit (fun r : List Int => decide (r.length = 0)) s m r HZ.out (decide_eq_true h0)
        have g0 : ((r.length : Int) == 0) = true := by simp [h0]
        clear h0
        go_wp2
        go_ret
        exact ⟨ret_bool HN.out.symm, rfl⟩
      · have HN : Hid ((s.take (m + 1)).any (fun r => decide (r.length = 0)) = false) := any_next (fun r : List Int => decide (r.length = 0)) s m r HZ.out hall.out (decide_eq_false h0)
        have g0 : ((r.length : Int) == 0) = false := by simpa using h0
        clear h0
        go_wp2
        go_round
        case rel => exact ⟨m + 1, by omega, by go_num, HN⟩
        case measure => simp [intOf]; omega
    · have HN : Hid (R = false) := by rw [← HR.out]; exact any_end _ s m hlt hall.out
      go_wp2
      go_ret
      exact ⟨ret_bool HN.out.symm, rfl⟩

set_option maxHeartbeats 800000 in
set_option maxRecDepth 100000 in
theorem has_any (s : Sto) (vals : List Int) (v u : Value) (w : World) (hv : RArg w v s) (hu : IArg w u vals) :
    Calls Tryz.prog 23 #[v, u] w fun e w' => e = .returned (.bool (hasS s vals)) ∧ ∃ n, w' = w.drewN n := by
  obtain ⟨a, c, rfl, hm, hr⟩ := hv
  obtain ⟨a', c', rfl, hm', hr'⟩ := hu
  have HV : Hid (∀ (i : Nat) (r : List Int), s[i]? = some r → ∃ b off x, a = some ⟨b, off, none⟩ ∧ b < w.heap.size ∧ w.cell? ⟨b, off + i, none⟩ = some x ∧ IArg w x r) := hr
  have HV' : Hid (∀ (i : Nat) (z : Int), vals[i]? = some z → ∃ b off, a' = some ⟨b, off, none⟩ ∧ b < w.heap.size ∧ w.cell? ⟨b, off + i, none⟩ = some (.int .i64 z)) := hr'
  obtain ⟨R, hR⟩ : ∃ R, hasS s vals = R := ⟨_, rfl⟩
  rw [hR]
  have HR : Hid (hasS s vals = R) := hR
  unfold maxLen at hm hm'
  obtain ⟨hm1, hm⟩ := hm
  obtain ⟨hm1', hm'⟩ := hm'
  clear hr hr' hR
  by_cases hl : s.length = vals.length
  · have HL : Hid (s.length = vals.length) := hl
    have HE : Hid (R = (s.zip vals).all fun p => hasB p.1 p.2) := by show _ = _; rw [← HR.out]; unfold hasS; rw [decide_eq_true hl]; rfl
    have g0 : ((s.length : Int) != (vals.length : Int)) = false := by simp [hl]
    clear hl
    go_enter Tryz.func23, Tryz.ntmps23
    go_wp2_with fail
    go_loopw [5] (fun i wr => ∃ m : Nat, m ≤ s.length ∧ i = .int .i64 m ∧ Hid (((s.zip vals).take m).all (fun p => hasB p.1 p.2) = true) ∧ ∃ n, wr = w.drewN n) (fun i _ => s.length - (intOf i).toNat)
    case atStart => exact ⟨0, by omega, rfl, rfl, 0, rfl⟩
    case round =>
      obtain ⟨m, hml, rfl, hall, nq, rfl⟩ := hrel
      by_cases hlt : m < s.length
      · have hlt' : m < vals.length := by rw [← HL.out]; exact hlt
        obtain ⟨x, hx⟩ : ∃ x, s[m]? = some x := ⟨s[m], by simp [hlt]⟩
        obtain ⟨y, hy⟩ : ∃ y, vals[m]? = some y := ⟨vals[m], by simp [hlt']⟩
        have HG : Hid ((s.zip vals)[m]? = some (x, y)) := by show _ = _; rw [List.getElem?_zip_eq_some]; exact ⟨hx, hy⟩
        obtain ⟨b, off, vx, ha, hb, hc, hix⟩ := HV.out m x hx
        obtain ⟨b', off', ha', hb', hd⟩ := HV'.out m y hy
        have HIX : Hid (IArg w vx x) := hix
        obtain ⟨a5, c5, rfl, _, _⟩ := hix
        subst ha; subst ha'
        clear hx hy
        have HS : Hid (∀ p q, Calls Tryz.prog 17 #[.slice a5 x.length c5, .int .i64 y] (w.drewN (p + q)) fun e w' => e = .returned (.bool (hasB x y)) ∧ ∃ n, w' = w.drewN (p + n)) := by
          intro p q
          refine (hasint_any x _ y (w.drewN (p + q)) HIX.out).mono ?_
          rintro e w' ⟨rfl, rfl⟩
          exact ⟨rfl, q, rfl⟩
        cases hq : hasB x y
        · have HN : Hid (R = false) := by
            rw [HE.out]
            exact all_hit (fun p : List Int × Int => hasB p.1 p.2) (s.zip vals) m (x, y) HG.out hq
          rw [hq] at HS
          clear hq
          go_wp2
          go_quiet ((go_at_call 17; exact HS.out _ _))
          go_wp2
          go_ret
          exact ⟨ret_bool HN.out.symm, _, drewN_drewN _ _ _⟩
        · have HN : Hid (((s.zip vals).take (m + 1)).all (fun p => hasB p.1 p.2) = true) := all_next (fun p : List Int × Int => hasB p.1 p.2) (s.zip vals) m (x, y) HG.out hall.out hq
          rw [hq] at HS
          clear hq
          go_wp2
          go_quiet ((go_at_call 17; exact HS.out _ _))
          go_wp2
          go_roundw
          case rel => exact ⟨m + 1, by omega, by go_num, HN, _, rfl⟩
          case measure => simp [intOf]; omega
      · have HN : Hid (R = true) := by
          rw [HE.out]
          exact all_end _ (s.zip vals) m (by rw [List.length_zip, ← HL.out]; omega) hall.out
        go_wp2
        go_ret
        exact ⟨ret_bool HN.out.symm, _, rfl⟩
  · have HN : Hid (R = false) := by show _ = _; rw [← HR.out]; unfold hasS; rw [decide_eq_false hl]; rfl
    have g0 : ((s.length : Int) != (vals.length : Int)) = true := by simp; omega
    clear hl
    go_enter Tryz.func23, Tryz.ntmps23
    go_wp2
    go_ret
    exact ⟨ret_bool HN.out.symm, 0, rfl⟩
end Go.Proofs.YtijohkhpigjbkaeGreatDoor
/-
  WALK: package model: Holds.
-/
namespace Go.Proofs.YtijohkhpigjbkaeGreatDoor
open Go.RowKit

set_option maxHeartbeats 1600000 in
set_option maxRecDepth 100000 in
theorem mholds_any (m : Mod) (con : Int) (vals : List Int) (vs cs v : Value) (w : World) (hm : MArg w vs cs m) (hv : IArg w v vals) :
    Calls Tryz.prog 22 #[modV vs cs m, .int .i64 con, v] w fun e w' => e = .returned (.tuple #[.bool (holdsA m con vals).1, .int .i64 (holdsA m con vals).2]) ∧ Below w.heap.size w w' := by
  have HMA : Hid (∀ w' : World, Below w.heap.size w w' → MArg w' vs cs m) := fun w' h => MArg.below h hm
  have HVA : Hid (∀ w' : World, Below w.heap.size w w' → IArg w' v vals) := fun w' h => IArg.below h hv
  obtain ⟨⟨a1, c1, rfl, _, _⟩, ⟨a2, c2, rfl, hl2, hr2⟩⟩ := hm
  obtain ⟨a3, c3, rfl, hl3, hr3⟩ := hv
  have HC : Hid (∀ (i : Nat) (t : MCon), m.cons[i]? = some t → ∃ b off vv vc vr vl, a2 = some ⟨b, off, none⟩ ∧ b < w.heap.size ∧
    w.cell? ⟨b, off + i * 6, none⟩ = some (.int .i64 t.kind) ∧ w.cell? ⟨b, off + i * 6 + 1, none⟩ = some vv ∧ w.cell? ⟨b, off + i * 6 + 2, none⟩ = some vc ∧
    w.cell? ⟨b, off + i * 6 + 3, none⟩ = some (.int .i64 t.n) ∧ w.cell? ⟨b, off + i * 6 + 4, none⟩ = some vr ∧ w.cell? ⟨b, off + i * 6 + 5, none⟩ = some vl ∧ KArg w vv vc vr vl t) := hr2
  have HV : Hid (∀ (i : Nat) (z : Int), vals[i]? = some z → ∃ b off, a3 = some ⟨b, off, none⟩ ∧ b < w.heap.size ∧ w.cell? ⟨b, off + i, none⟩ = some (.int .i64 z)) := hr3
  unfold maxLen at hl2 hl3
  obtain ⟨hl21, hl2⟩ := hl2
  obtain ⟨hl31, hl3⟩ := hl3
  obtain ⟨R, hR⟩ : ∃ R, holdsA m con vals = R := ⟨_, rfl⟩
  rw [hR]
  obtain ⟨er, her⟩ : ∃ er, conCheck m con = er := ⟨_, rfl⟩
  have HER : Hid (conCheck m con = er) := her
  have HE : Hid (R = if er = 0 then
    (if vals.length = m.vars.length then (if vals.all (fun x => inB x 50) then (holdsC (m.cons.getD con.toNat noCon) vals, 0) else (false, 3)) else (false, 1))
    else (false, er)) := by rw [← hR, ← her]; rfl
  clear hR her hr2 hr3
  unfold modV
  go_enter Tryz.func22, Tryz.ntmps22
  go_wp2_with fail
  refine (check_con m con (.slice a1 m.vars.length c1) (.slice a2 m.cons.length c2) _ ?_).mono ?_
  · exact HMA.out _ (below_alloc _ _)
  rintro e w1 ⟨rfl, hb1⟩
  rw [HER.out]
  have d0 : w1.cell? ⟨w.heap.size, 0, none⟩ = some (.slice a1 m.vars.length c1) := (hb1.cell (by simp)).trans (by simp)
  have d1 : w1.cell? ⟨w.heap.size, 1, none⟩ = some (.slice a2 m.cons.length c2) := (hb1.cell (by simp)).trans (by simp)
  have HB1 : Hid (Below w.heap.size w w1) := (below_alloc _ _).trans (hb1.mono (by simp))
  clear hb1
  by_cases he : er = 0
  · subst he
    obtain ⟨o1, o2, o3⟩ := conCheck_ok m con HER.out
    by_cases hl : vals.length = m.vars.length
    · have g0 : ((vals.length : Int) != (m.vars.length : Int)) = false := by simp [hl]
      have HL : Hid (vals.length = m.vars.length) := hl
      have HE2 : Hid (R = if vals.all (fun x => inB x 50) then (holdsC (m.cons.getD con.toNat noCon) vals, 0) else (false, 3)) := by rw [HE.out, if_pos rfl, if_pos hl]; rfl
      have HO1 : Hid (checkM m = 0) := o1
      clear hl o1
      go_wp2_with fail
      go_loop [25] (fun i => ∃ k : Nat, k ≤ vals.length ∧ i = .int .i64 k ∧ Hid ((vals.take k).all (fun x => inB x 50) = true)) (fun i => vals.length - (intOf i).toNat)
      case atStart => exact ⟨0, by omega, rfl, rfl⟩
      case round =>
        obtain ⟨k, hk, rfl, hall⟩ := hrel
        by_cases hlt : k < vals.length
        · obtain ⟨x, hx⟩ : ∃ x, vals[k]? = some x := ⟨vals[k], by simp [hlt]⟩
          obtain ⟨b, off, rfl, hb, e0⟩ := HV.out k x hx
          have e1 := (HB1.out.cell (p := ⟨b, off + k, none⟩) hb).trans e0
          have HX : Hid (vals[k]? = some x) := hx
          clear hx e0 hb
          cases hq : inB x 50
          · have HN : Hid (R = (false, 3)) := by rw [HE2.out, all_hit (fun x => inB x 50) vals k x HX.out hq]; rfl
            go_wp2_with fail
            refine (within_any _ 50 (by omega) (by omega) _).mono ?_
            rintro e w1 ⟨rfl, rfl⟩
            rw [hq]
            clear hq
            go_wp2
            go_ret2
            exact ⟨by rw [HN.out]; rfl, HB1.out⟩
          · have HN : Hid ((vals.take (k + 1)).all (fun x => inB x 50) = true) := all_next (fun x => inB x 50) vals k x HX.out hall.out hq
            go_wp2_with fail
            refine (within_any _ 50 (by omega) (by omega) _).mono ?_
            rintro e w1 ⟨rfl, rfl⟩
            rw [hq]
            clear hq
            go_wp2
            go_round
            case rel => exact ⟨k + 1, by omega, by go_num, HN⟩
            case measure => simp [intOf]; omega
        · have HA : Hid (vals.all (fun x => inB x 50) = true) := all_end _ vals k hlt hall.out
          obtain ⟨j, rfl⟩ : ∃ j : Nat, con = (j : Int) := ⟨con.toNat, by omega⟩
          have hjl : j < m.cons.length := by omega
          obtain ⟨c, hc⟩ : ∃ c, m.cons[j]? = some c := ⟨m.cons[j], by simp [hjl]⟩
          have HN : Hid (R = (holdsC c vals, 0)) := by
            rw [HE2.out, HA.out, if_pos rfl, Int.toNat_natCast, List.getD_eq_getElem?_getD, hc]; rfl
          obtain ⟨b, off, vv, vc, vr, vl, ha, hb, f0, f1, f2, f3, f4, f5, hka⟩ := HC.out j c hc
          subst ha
          have e0 := (HB1.out.cell (p := ⟨b, off + j * 6, none⟩) hb).trans f0
          have e1 := (HB1.out.cell (p := ⟨b, off + j * 6 + 1, none⟩) hb).trans f1
          have e2 := (HB1.out.cell (p := ⟨b, off + j * 6 + 2, none⟩) hb).trans f2
          have e3 := (HB1.out.cell (p := ⟨b, off + j * 6 + 3, none⟩) hb).trans f3
          have e4 := (HB1.out.cell (p := ⟨b, off + j * 6 + 4, none⟩) hb).trans f4
          have e5 := (HB1.out.cell (p := ⟨b, off + j * 6 + 5, none⟩) hb).trans f5
          have HK : Hid (KArg w1 vv vc vr vl c) := KArg.below HB1.out hka
          have HCE : Hid (conE vals.length c = 0) := by rw [HL.out]; exact con_ok m HO1.out j c hc
          have HBD : Hid (∀ x ∈ vals, -50 ≤ x ∧ x ≤ 50) := fun x hx => by
            have := List.all_eq_true.1 HA.out x hx
            simpa [inB] using this
          obtain ⟨⟨q1, r1, rfl, _, _⟩, ⟨q2, r2, rfl, _, _⟩, ⟨q3, r3, rfl, _, _⟩, ⟨q4, r4, rfl, _, _⟩⟩ := hka
          clear hc f0 f1 f2 f3 f4 f5 hb
          go_wp2_with fail
          refine (holds_any c vals _ _ _ _ _ _ HK.out (HVA.out _ HB1.out) HCE.out HBD.out).mono ?_
          rintro e w2 ⟨rfl, hb2⟩
          have hb3 : Below w.heap.size w w2 := HB1.out.trans (hb2.mono HB1.out.size)
          clear hb2
          go_wp2
          go_ret2
          exact ⟨by rw [HN.out]; rfl, hb3⟩
    · have g0 : ((vals.length : Int) != (m.vars.length : Int)) = true := by simp; omega
      have HN : Hid (R = (false, 1)) := by rw [HE.out, if_pos rfl, if_neg hl]; rfl
      clear hl
      go_wp2
      go_ret2
      exact ⟨by rw [HN.out]; rfl, HB1.out⟩
  · have HN : Hid (R = (false, er)) := by rw [HE.out, if_neg he]; rfl
    have he2 : (er != 0) = true := by simpa using he
    clear he
    go_wp2
    go_ret2
    exact ⟨by rw [HN.out]; rfl, HB1.out⟩
end Go.Proofs.YtijohkhpigjbkaeGreatDoor
/-
  WALK: package model: All.
-/
namespace Go.Proofs.YtijohkhpigjbkaeGreatDoor
open Go.RowKit

set_option maxHeartbeats 1600000 in
set_option maxRecDepth 100000 in
theorem mall_any (m : Mod) (vals : List Int) (vs cs v : Value) (w : World) (hm : MArg w vs cs m) (hv : IArg w v vals) :
    Calls Tryz.prog 37 #[modV vs cs m, v] w fun e w' => e = .returned (.tuple #[.bool (allA m vals).1, .int .i64 (allA m vals).2]) ∧ Below w.heap.size w w' := by
  have HMA : Hid (∀ w' : World, Below w.heap.size w w' → MArg w' vs cs m) := fun w' h => MArg.below h hm
  have HVA : Hid (∀ w' : World, Below w.heap.size w w' → IArg w' v vals) := fun w' h => IArg.below h hv
  obtain ⟨⟨a1, c1, rfl, hl1, hr1⟩, ⟨a2, c2, rfl, hl2, hr2⟩⟩ := hm
  obtain ⟨a3, c3, rfl, hl3, hr3⟩ := hv
  have HV1 : Hid (∀ (i : Nat) (t : MVar), m.vars[i]? = some t → t.name.size ≤ maxLen ∧ ∃ b off, a1 = some ⟨b, off, none⟩ ∧ b < w.heap.size ∧
    w.cell? ⟨b, off + i * 3, none⟩ = some (.string t.name) ∧ w.cell? ⟨b, off + i * 3 + 1, none⟩ = some (.int .i64 t.lo) ∧ w.cell? ⟨b, off + i * 3 + 2, none⟩ = some (.int .i64 t.hi)) := hr1
  have HC : Hid (∀ (i : Nat) (t : MCon), m.cons[i]? = some t → ∃ b off vv vc vr vl, a2 = some ⟨b, off, none⟩ ∧ b < w.heap.size ∧
    w.cell? ⟨b, off + i * 6, none⟩ = some (.int .i64 t.kind) ∧ w.cell? ⟨b, off + i * 6 + 1, none⟩ = some vv ∧ w.cell? ⟨b, off + i * 6 + 2, none⟩ = some vc ∧
    w.cell? ⟨b, off + i * 6 + 3, none⟩ = some (.int .i64 t.n) ∧ w.cell? ⟨b, off + i * 6 + 4, none⟩ = some vr ∧ w.cell? ⟨b, off + i * 6 + 5, none⟩ = some vl ∧ KArg w vv vc vr vl t) := hr2
  have HV : Hid (∀ (i : Nat) (z : Int), vals[i]? = some z → ∃ b off, a3 = some ⟨b, off, none⟩ ∧ b < w.heap.size ∧ w.cell? ⟨b, off + i, none⟩ = some (.int .i64 z)) := hr3
  unfold maxLen at hl1 hl2 hl3
  obtain ⟨hl11, hl1⟩ := hl1
  obtain ⟨hl21, hl2⟩ := hl2
  obtain ⟨hl31, hl3⟩ := hl3
  obtain ⟨R, hR⟩ : ∃ R, allA m vals = R := ⟨_, rfl⟩
  rw [hR]
  obtain ⟨er, her⟩ : ∃ er, checkM m = er := ⟨_, rfl⟩
  have HER : Hid (checkM m = er) := her
  have HE : Hid (R = if er = 0 then
    (if vals.length = m.vars.length then ((m.vars.zip vals).all (fun p => insideV p.1 p.2) && m.cons.all (fun c => holdsC c vals), 0) else (false, 1))
    else (false, er)) := by rw [← hR, ← her]; rfl
  clear hR her hr1 hr2 hr3
  unfold modV
  go_enter Tryz.func37, Tryz.ntmps37
  go_wp2_with fail
  refine (check_model m (.slice a1 m.vars.length c1) (.slice a2 m.cons.length c2) _ ?_).mono ?_
  · exact HMA.out _ (below_alloc _ _)
  rintro e w1 ⟨rfl, hb1⟩
  rw [HER.out]
  have d0 : w1.cell? ⟨w.heap.size, 0, none⟩ = some (.slice a1 m.vars.length c1) := (hb1.cell (by simp)).trans (by simp)
  have d1 : w1.cell? ⟨w.heap.size, 1, none⟩ = some (.slice a2 m.cons.length c2) := (hb1.cell (by simp)).trans (by simp)
  have HD1 : Hid (w1.cell? ⟨w.heap.size, 1, none⟩ = some (.slice a2 m.cons.length c2)) := d1
  have hs1 : w.heap.size + 1 ≤ w1.heap.size := by simpa using hb1.size
  have HB1 : Hid (Below w.heap.size w w1) := (below_alloc _ _).trans (hb1.mono (by simp))
  clear hb1
  by_cases he : er = 0
  · subst he
    by_cases hl : vals.length = m.vars.length
    · have g0 : ((vals.length : Int) != (m.vars.length : Int)) = false := by simp [hl]
      have HL : Hid (vals.length = m.vars.length) := hl
      have HE2 : Hid (R = ((m.vars.zip vals).all (fun p => insideV p.1 p.2) && m.cons.all (fun c => holdsC c vals), 0)) := by rw [HE.out, if_pos rfl, if_pos hl]; rfl
      clear hl
      go_wp2_with fail
      go_loopw [25] (fun i wr => ∃ k : Nat, k ≤ m.vars.length ∧ i = .int .i64 k ∧ Hid (((m.vars.zip vals).take k).all (fun p => insideV p.1 p.2) = true) ∧ Below w1.heap.size w1 wr) (fun i _ => m.vars.length - (intOf i).toNat)
      case atStart => exact ⟨0, by omega, rfl, rfl, Below.refl _ _⟩
      case round =>
        obtain ⟨k, hk, rfl, hall, hbw⟩ := hrel
        have HBW : Hid (Below w.heap.size w wr) := HB1.out.trans (hbw.mono (by omega))
        have HBW1 : Hid (Below w1.heap.size w1 wr) := hbw
        by_cases hlt : k < m.vars.length
        · have hlt' : k < vals.length := by rw [HL.out]; exact hlt
          obtain ⟨x, hx⟩ : ∃ x, vals[k]? = some x := ⟨vals[k], by simp [hlt']⟩
          obtain ⟨t, ht⟩ : ∃ t, m.vars[k]? = some t := ⟨m.vars[k], by simp [hlt]⟩
          have HG : Hid ((m.vars.zip vals)[k]? = some (t, x)) := by show _ = _; rw [List.getElem?_zip_eq_some]; exact ⟨ht, hx⟩
          obtain ⟨b, off, rfl, hb, e0⟩ := HV.out k x hx
          obtain ⟨_, b', off', rfl, hb', f0, f1, f2⟩ := HV1.out k t ht
          have e1 := (HBW.out.cell (p := ⟨b, off + k, none⟩) hb).trans e0
          have k0 := (HBW.out.cell (p := ⟨b', off' + k * 3, none⟩) hb').trans f0
          have k1 := (HBW.out.cell (p := ⟨b', off' + k * 3 + 1, none⟩) hb').trans f1
          have k2 := (HBW.out.cell (p := ⟨b', off' + k * 3 + 2, none⟩) hb').trans f2
          have hbr : b < wr.heap.size := Nat.lt_of_lt_of_le hb HBW.out.size
          clear hx ht e0 f0 f1 f2 hb hb' hbw
          by_cases q1 : x < t.lo
          · have HN : Hid (R = (false, 0)) := by
              have := all_hit (fun p : MVar × Int => insideV p.1 p.2) (m.vars.zip vals) k (t, x) HG.out (by simp [insideV, q1])
              rw [HE2.out, this]; rfl
            have q2 : decide (x < t.lo) = true := decide_eq_true q1
            go_wp2
            go_quiet (fail)
            go_wp2
            go_ret2
            exact ⟨by rw [HN.out]; rfl, below_drewN (HBW.out.trans ((below_alloc _ _).mono HBW.out.size)) _⟩
          · have q2 : decide (x < t.lo) = false := decide_eq_false q1
            by_cases q3 : t.hi < x
            · have HN : Hid (R = (false, 0)) := by
                have := all_hit (fun p : MVar × Int => insideV p.1 p.2) (m.vars.zip vals) k (t, x) HG.out (by simp [insideV, q3])
                rw [HE2.out, this]; rfl
              clear q1
              go_wp2
              go_quiet (fail)
              go_wp2
              go_ret2
              exact ⟨by rw [HN.out]; rfl, below_drewN (HBW.out.trans ((below_alloc _ _).mono HBW.out.size)) _⟩
            · have HN : Hid (((m.vars.zip vals).take (k + 1)).all (fun p => insideV p.1 p.2) = true) := all_next (fun p : MVar × Int => insideV p.1 p.2) (m.vars.zip vals) k (t, x) HG.out hall.out (by simp [insideV]; omega)
              have q4 : decide (t.hi < x) = false := decide_eq_false q3
              clear q1 q3
              go_wp2
              go_quiet (fail)
              go_wp2
              go_roundw
              case rel => exact ⟨k + 1, by omega, by go_num, HN, below_drewN (HBW1.out.alloc HBW1.out.size _) _⟩
              case measure => simp [intOf]; omega
        · have HA : Hid ((m.vars.zip vals).all (fun p => insideV p.1 p.2) = true) := all_end _ _ k (by rw [List.length_zip, HL.out]; omega) hall.out
          have HE3 : Hid (R = (m.cons.all (fun c => holdsC c vals), 0)) := by rw [HE2.out, HA.out, Bool.true_and]; rfl
          have HBD : Hid (∀ x ∈ vals, -50 ≤ x ∧ x ≤ 50) := by
            intro x hx
            obtain ⟨i, hi⟩ := List.mem_iff_getElem?.1 hx
            have hil : i < m.vars.length := by rw [← HL.out]; exact (List.getElem?_eq_some_iff.1 hi).1
            have ht : m.vars[i]? = some m.vars[i] := by simp [hil]
            have hvo := var_ok m HER.out i _ ht
            have := List.all_eq_true.1 HA.out (m.vars[i], x) (List.mem_of_getElem? (i := i) (by rw [List.getElem?_zip_eq_some]; exact ⟨ht, hi⟩))
            simp [insideV] at this
            omega
          have e1 : wr.cell? ⟨w.heap.size, 1, none⟩ = some (.slice a2 m.cons.length c2) := (hbw.cell (p := ⟨w.heap.size, 1, none⟩) (by simp only; omega)).trans d1
          obtain ⟨wo, rfl⟩ : ∃ wo : World, wo = wr := ⟨_, rfl⟩
          go_wp2
          clear hk hall hbw hlt e1
          go_loopw [50] (fun i wr => ∃ k : Nat, k ≤ m.cons.length ∧ i = .int .i64 k ∧ Hid ((m.cons.take k).all (fun c => holdsC c vals) = true) ∧ Below w.heap.size w wr) (fun i _ => m.cons.length - (intOf i).toNat)
          case atStart => exact ⟨0, by omega, rfl, rfl, HBW.out⟩
          case round =>
            obtain ⟨j, hj, rfl, hall, hbw⟩ := hrel
            have HBR : Hid (Below w.heap.size w wr) := hbw
            clear hbw
            by_cases hlt : j < m.cons.length
            · obtain ⟨c, hc⟩ : ∃ c, m.cons[j]? = some c := ⟨m.cons[j], by simp [hlt]⟩
              have HCC : Hid (m.cons[j]? = some c) := hc
              obtain ⟨b, off, vv, vc, vr, vl, ha, hb, f0, f1, f2, f3, f4, f5, hka⟩ := HC.out j c hc
              subst ha
              have e0 := (HBR.out.cell (p := ⟨b, off + j * 6, none⟩) hb).trans f0
              have e1 := (HBR.out.cell (p := ⟨b, off + j * 6 + 1, none⟩) hb).trans f1
              have e2 := (HBR.out.cell (p := ⟨b, off + j * 6 + 2, none⟩) hb).trans f2
              have e3 := (HBR.out.cell (p := ⟨b, off + j * 6 + 3, none⟩) hb).trans f3
              have e4 := (HBR.out.cell (p := ⟨b, off + j * 6 + 4, none⟩) hb).trans f4
              have e5 := (HBR.out.cell (p := ⟨b, off + j * 6 + 5, none⟩) hb).trans f5
              have HK : Hid (KArg wr vv vc vr vl c) := KArg.below HBR.out hka
              have HCE : Hid (conE vals.length c = 0) := by rw [HL.out]; exact con_ok m HER.out j c hc
              obtain ⟨⟨q1, r1, rfl, _, _⟩, ⟨q2, r2, rfl, _, _⟩, ⟨q3, r3, rfl, _, _⟩, ⟨q4, r4, rfl, _, _⟩⟩ := hka
              clear hc f0 f1 f2 f3 f4 f5 hb
              cases hq : holdsC c vals
              · have HN : Hid (R = (false, 0)) := by rw [HE3.out, all_hit (fun c => holdsC c vals) m.cons j c HCC.out hq]; rfl
                go_wp2_with fail
                refine (holds_any c vals _ _ _ _ _ _ (KArg.below (below_alloc _ _) HK.out) (HVA.out _ (HBR.out.trans ((below_alloc _ _).mono HBR.out.size))) HCE.out HBD.out).mono ?_
                rintro e w2 ⟨rfl, hb2⟩
                rw [hq]
                have hb3 : Below w.heap.size w w2 := (HBR.out.trans ((below_alloc _ _).mono HBR.out.size)).trans (hb2.mono (by have := HBR.out.size; simp; omega))
                clear hb2 hq
                go_wp2
                go_ret2
                exact ⟨by rw [HN.out]; rfl, hb3⟩
              · have HN : Hid ((m.cons.take (j + 1)).all (fun c => holdsC c vals) = true) := all_next (fun c => holdsC c vals) m.cons j c HCC.out hall.out hq
                go_wp2_with fail
                refine (holds_any c vals _ _ _ _ _ _ (KArg.below (below_alloc _ _) HK.out) (HVA.out _ (HBR.out.trans ((below_alloc _ _).mono HBR.out.size))) HCE.out HBD.out).mono ?_
                rintro e w2 ⟨rfl, hb2⟩
                rw [hq]
                have hb3 : Below w.heap.size w w2 := (HBR.out.trans ((below_alloc _ _).mono HBR.out.size)).trans (hb2.mono (by have := HBR.out.size; simp; omega))
                clear hb2 hq
                go_wp2
                go_roundw
                case rel => exact ⟨j + 1, by omega, by go_num, HN, hb3⟩
                case measure => simp [intOf]; omega
            · have HN : Hid (R = (true, 0)) := by rw [HE3.out, all_end _ m.cons j hlt hall.out]; rfl
              go_wp2
              go_ret2
              exact ⟨by rw [HN.out]; rfl, HBR.out⟩
    · have g0 : ((vals.length : Int) != (m.vars.length : Int)) = true := by simp; omega
      have HN : Hid (R = (false, 1)) := by rw [HE.out, if_pos rfl, if_neg hl]; rfl
      clear hl
      go_wp2
      go_ret2
      exact ⟨by rw [HN.out]; rfl, HB1.out⟩
  · have HN : Hid (R = (false, er)) := by rw [HE.out, if_neg he]; rfl
    have he2 : (er != 0) = true := by simpa using he
    clear he
    go_wp2
    go_ret2
    exact ⟨by rw [HN.out]; rfl, HB1.out⟩
end Go.Proofs.YtijohkhpigjbkaeGreatDoor
/-
  WALK: modelBegun.
-/
namespace Go.Proofs.YtijohkhpigjbkaeGreatDoor
open Go.RowKit

theorem two_holds : holdsA twoM 0 [0, 1] = (true, 0) := by kernel_rfl
theorem two_all : allA twoM [2, 1] = (false, 0) := by kernel_rfl
theorem sort01 : sortI [0, 1] = [0, 1] := by
  unfold sortI
  exact List.mergeSort_of_pairwise (by decide)
theorem two_scope : scopeA twoM 0 = ([0, 1], 0) := by
  have h0 : conCheck twoM 0 = 0 := by kernel_rfl
  unfold scopeA
  rw [if_pos h0]
  have h1 : scopeL (twoM.cons.getD (0 : Int).toNat noCon) = [0, 1] := by rfl
  unfold scopeC
  rw [h1, sort01]
  decide
/-- A list of two, written out. -/
theorem ilit2 {w : World} (a b : Int) (B : Nat) (h : B = w.heap.size) : IArg (w.alloc (.cells #[.int .i64 a, .int .i64 b] 3)) (.slice (some ⟨B, 0, none⟩) 2 2) [a, b] := by
  subst h
  refine ⟨_, 2, rfl, ⟨by simp, by unfold maxLen; omega⟩, fun i z hz => ?_⟩
  match i, hz with
  | 0, hz => cases hz; exact ⟨_, 0, rfl, by simp, by simp⟩
  | 1, hz => cases hz; exact ⟨_, 0, rfl, by simp, by simp⟩

set_option maxHeartbeats 1600000 in
set_option maxRecDepth 100000 in
theorem begun_model (w : World) :
    Calls Tryz.prog 20 #[] w fun e w' => e = .returned (.bool true) ∧ Below w.heap.size w w' := by
  go_enter Tryz.func20, Tryz.ntmps20
  go_wp2_with fail
  refine (two_any _).mono ?_
  rintro e w1 ⟨vs, cs, rfl, hm, hb1⟩
  have HM : Hid (MArg w1 vs cs twoM) := hm
  clear hm
  go_wp2_with fail
  refine (mholds_any twoM 0 [0, 1] vs cs _ _ (MArg.below (below_alloc _ _) HM.out) (ilit2 0 1 _ rfl)).mono ?_
  rintro e w2 ⟨rfl, hb2⟩
  rw [two_holds]
  have hs1 := hb1.size
  have hB2 : Below w.heap.size w w2 := (hb1.alloc hs1 _).trans (hb2.mono (by simp; omega))
  clear hb1 hb2 HM hs1
  go_wp2_with fail
  refine (two_any _).mono ?_
  rintro e w3 ⟨vs, cs, rfl, hm, hb3⟩
  have HM : Hid (MArg w3 vs cs twoM) := hm
  clear hm
  go_wp2_with fail
  refine (mall_any twoM [2, 1] vs cs _ _ (MArg.below (below_alloc _ _) HM.out) (ilit2 2 1 _ rfl)).mono ?_
  rintro e w4 ⟨rfl, hb4⟩
  rw [two_all]
  have hs2 := hB2.size
  have hs3 := hb3.size
  have hB4 : Below w.heap.size w w4 := hB2.trans ((((hb3.alloc hs3 _).trans (hb4.mono (by simp; omega)))).mono hs2)
  clear hb3 hb4 HM hs2 hs3 hB2
  go_wp2_with fail
  refine (two_any _).mono ?_
  rintro e w5 ⟨vs, cs, rfl, hm, hb5⟩
  go_wp2_with fail
  refine (mscope_any twoM 0 vs cs _ hm).mono ?_
  rintro e w6 ⟨x, rfl, hx, hb6⟩
  rw [two_scope] at hx ⊢
  have HX : Hid (∀ w' : World, Below w6.heap.size w6 w' → IArg w' x [0, 1]) := fun w' h => IArg.below h hx
  obtain ⟨a6, c6, rfl, _, _⟩ := hx
  have hs4 := hB4.size
  have hs5 := hb5.size
  have hB6 : Below w.heap.size w w6 := hB4.trans ((hb5.trans (hb6.mono hs5)).mono hs4)
  clear hb5 hb6 hm hs4 hs5 hB4
  go_wp2_with fail
  refine (two_any _).mono ?_
  rintro e w7 ⟨vs, cs, rfl, hm, hb7⟩
  go_wp2_with fail
  refine (check_model twoM vs cs _ hm).mono ?_
  rintro e w8 ⟨rfl, hb8⟩
  rw [two_checks]
  have hs7 := hb7.size
  have hB8 : Below w6.heap.size w6 w8 := hb7.trans (hb8.mono hs7)
  have hs8 := hB8.size
  clear hb7 hb8 hm hs7
  go_wp2_with fail
  refine (sameints_any [0, 1] [0, 1] _ _ _ (HX.out _ (hB8.alloc hs8 _)) (ilit2 0 1 _ rfl)).mono ?_
  rintro e w9 ⟨rfl, n, h9⟩
  rw [show decide (([0, 1] : List Int) = [0, 1]) = true from by decide]
  have hB9 : Below w.heap.size w w9 := hB6.trans (((hB8.alloc hs8 _).trans ((draws0 h9).mono (by simp; omega))).mono hB6.size)
  clear h9
  go_wp2
  go_ret
  exact ⟨rfl, hB9⟩
end Go.Proofs.YtijohkhpigjbkaeGreatDoor
/-
  WALK: clauseBegun.
-/
namespace Go.Proofs.YtijohkhpigjbkaeGreatDoor
open Go.RowKit

def begC : Cla := [⟨0, 3, 2⟩, ⟨1, 2, 1⟩]
theorem lits_new (w : World) : LArg (w.alloc (.cells #[.int .i64 0, .int .i64 3, .int .i64 2, .int .i64 1, .int .i64 2, .int .i64 1] 42)) (.slice (some ⟨w.heap.size, 0, none⟩) 2 2) begC := by
  refine ⟨_, 2, rfl, ⟨by simp [begC], by unfold maxLen; omega⟩, fun i t ht => ?_⟩
  match i, ht with
  | 0, ht =>
    cases ht
    exact ⟨_, 0, rfl, by simp, World.cell?_alloc_at _ _ _ 0 (by simp), World.cell?_alloc_at _ _ _ 1 (by simp), World.cell?_alloc_at _ _ _ 2 (by simp)⟩
  | 1, ht =>
    cases ht
    exact ⟨_, 0, rfl, by simp, World.cell?_alloc_at _ _ _ 3 (by simp), World.cell?_alloc_at _ _ _ 4 (by simp), World.cell?_alloc_at _ _ _ 5 (by simp)⟩
theorem beg_in : cinE twoM [[0, 1], [0, 1, 2]] begC = 0 := by
  have h : checkL twoM [[[0, 1], [0, 1, 2]]] = 0 := by unfold checkL; rw [if_pos two_checks]; decide
  unfold cinE; rw [if_pos h]; decide
theorem beg_check : ccheckA twoM begC = 0 := by unfold ccheckA; rw [if_pos two_checks]; decide
theorem beg_holds : choldsA twoM begC [0, 1] = (true, 0) := by unfold choldsA; rw [if_pos beg_check]; decide
theorem beg_unit : cunitA twoM [[0, 1], [0, 1, 2]] begC = ([[0, 1], [1, 2]], 0) := by unfold cunitA; rw [if_pos beg_in]; decide
theorem beg_deny : cdenyA twoM [[0, 1], [0, 1, 2]] begC = ([[0, 1], [0]], 0) := by unfold cdenyA; rw [if_pos beg_in]; decide
theorem ints2 (w : World) (a b : Int) : IArg (w.alloc (.cells #[.int .i64 a, .int .i64 b] 3)) (.slice (some ⟨w.heap.size, 0, none⟩) 2 2) [a, b] := by
  refine ⟨_, 2, rfl, ⟨by simp, by unfold maxLen; omega⟩, fun i z hz => ?_⟩
  match i, hz with
  | 0, hz => cases hz; exact ⟨_, 0, rfl, by simp, World.cell?_alloc_at _ _ _ 0 (by simp)⟩
  | 1, hz => cases hz; exact ⟨_, 0, rfl, by simp, World.cell?_alloc_at _ _ _ 1 (by simp)⟩

set_option maxHeartbeats 1600000 in
set_option maxRecDepth 100000 in
theorem begun_clause (w : World) :
    Calls Tryz.prog 21 #[] w fun e w' => e = .returned (.bool true) ∧ Below w.heap.size w w' := by
  go_enter Tryz.func21, Tryz.ntmps21
  go_wp2_with fail
  refine (two_any _).mono ?_
  rintro e w1 ⟨vs, cs, rfl, hm, hb1⟩
  have HL : Hid (∀ w' : World, Below w1.heap.size w1 w' → LArg w' (.slice (some ⟨w.heap.size, 0, none⟩) 2 2) begC) := fun w' h => LArg.below (hb1.trans (h.mono hb1.size)) (LArg.below (below3 _ _ _ _) (lits_new w))
  have HS : Hid (∀ w' : World, Below w1.heap.size w1 w' → RArg w' (.slice (some ⟨w.heap.size + 1 + 1 + 1, 0, none⟩) 2 2) [[0, 1], [0, 1, 2]]) := fun w' h => RArg.below (hb1.trans (h.mono hb1.size)) (lit2 [0, 1] [0, 1, 2] _ _ _ (by simp) (by simp) (by simp) (by decide) (by decide))
  have HM : Hid (∀ w' : World, Below w1.heap.size w1 w' → MArg w' vs cs twoM) := fun w' h => MArg.below h hm
  have HB1 : Hid (Below w.heap.size w w1) := (((below3 _ _ _ _).alloc (by simp; omega) _).trans (hb1.mono (by simp; omega)))
  clear hm hb1
  go_wp2_with fail
  refine (cholds_any twoM begC [0, 1] _ _ _ _ _ (HM.out _ (below_alloc _ _)) (HL.out _ (below_alloc _ _)) (ints2 _ 0 1)).mono ?_
  rintro e w2 ⟨rfl, hb2⟩
  rw [beg_holds]
  have HB2 : Hid (Below w1.heap.size w1 w2) := (below_alloc _ _).trans (hb2.mono (by simp))
  clear hb2 HM
  go_wp2_with fail
  refine (two_any _).mono ?_
  rintro e w3 ⟨vs, cs, rfl, hm, hb3⟩
  have HB3 : Hid (Below w1.heap.size w1 w3) := HB2.out.trans (hb3.mono HB2.out.size)
  have HM : Hid (MArg w3 vs cs twoM) := hm
  clear hm hb3 HB2
  go_wp2_with fail
  refine (cunit_any twoM [[0, 1], [0, 1, 2]] begC _ _ _ _ _ HM.out (HS.out _ HB3.out) (HL.out _ HB3.out)).mono ?_
  rintro e w4 ⟨x, rfl, hx, hb4⟩
  rw [beg_unit] at hx ⊢
  have HX : Hid (∀ w' : World, Below w4.heap.size w4 w' → RArg w' x [[0, 1], [1, 2]]) := fun w' h => RArg.below h hx
  obtain ⟨ax, cx, rfl, _, _⟩ := hx
  have HB4 : Hid (Below w1.heap.size w1 w4) := HB3.out.trans (hb4.mono HB3.out.size)
  clear hb4 HB3 HM
  go_wp2_with fail
  refine (two_any _).mono ?_
  rintro e w5 ⟨vs, cs, rfl, hm, hb5⟩
  have HB5 : Hid (Below w1.heap.size w1 w5) := HB4.out.trans (hb5.mono HB4.out.size)
  have HM : Hid (MArg w5 vs cs twoM) := hm
  have HB45 : Hid (Below w4.heap.size w4 w5) := hb5
  clear hm hb5 HB4
  go_wp2_with fail
  refine (cdeny_any twoM [[0, 1], [0, 1, 2]] begC _ _ _ _ _ HM.out (HS.out _ HB5.out) (HL.out _ HB5.out)).mono ?_
  rintro e w6 ⟨y, rfl, hy, hb6⟩
  rw [beg_deny] at hy ⊢
  have HY : Hid (∀ w' : World, Below w6.heap.size w6 w' → RArg w' y [[0, 1], [0]]) := fun w' h => RArg.below h hy
  obtain ⟨ay, cy, rfl, _, _⟩ := hy
  have HB6 : Hid (Below w1.heap.size w1 w6) := HB5.out.trans (hb6.mono HB5.out.size)
  have HB46 : Hid (Below w4.heap.size w4 w6) := HB45.out.trans (hb6.mono HB45.out.size)
  clear hb6 HB5 HM HB45
  go_wp2_with fail
  refine (two_any _).mono ?_
  rintro e w7 ⟨vs, cs, rfl, hm, hb7⟩
  have HB67 : Hid (Below w6.heap.size w6 w7) := hb7
  have HM : Hid (MArg w7 vs cs twoM) := hm
  clear hm hb7
  go_wp2_with fail
  refine (ccheck_any twoM begC _ _ _ _ HM.out (HL.out _ (HB6.out.trans (HB67.out.mono HB6.out.size)))).mono ?_
  rintro e w8 ⟨rfl, hb8⟩
  rw [beg_check]
  have HB68 : Hid (Below w6.heap.size w6 w8) := HB67.out.trans (hb8.mono HB67.out.size)
  clear hb8 HM HB67
  go_wp2_with fail
  refine (samestore_any [[0, 1], [1, 2]] [[0, 1], [1, 2]] _ _ _ (HX.out _ ?_) (lit2 [0, 1] [1, 2] _ _ _ rfl rfl rfl (by decide) (by decide))).mono ?_
  · exact HB46.out.trans ((HB68.out.trans ((below3 _ _ _ _).mono HB68.out.size)).mono HB46.out.size)
  rintro e w9 ⟨rfl, n9, h9⟩
  rw [show decide (([[0, 1], [1, 2]] : Sto) = [[0, 1], [1, 2]]) = true from by decide]
  have HB69 : Hid (Below w6.heap.size w6 w9) := HB68.out.trans (((below3 _ _ _ _).trans ((draws_below h9).mono (by simp; omega))).mono HB68.out.size)
  clear h9
  go_wp2_with fail
  refine (samestore_any [[0, 1], [0]] [[0, 1], [0]] _ _ _ (HY.out _ ?_) (lit2 [0, 1] [0] _ _ _ rfl rfl rfl (by decide) (by decide))).mono ?_
  · exact HB69.out.trans ((below3 _ _ _ _).mono HB69.out.size)
  rintro e wa ⟨rfl, na, ha⟩
  rw [show decide (([[0, 1], [0]] : Sto) = [[0, 1], [0]]) = true from by decide]
  have hBa : Below w.heap.size w wa := HB1.out.trans ((HB6.out.trans ((HB69.out.trans (((below3 _ _ _ _).trans ((draws_below ha).mono (by simp; omega))).mono HB69.out.size)).mono HB6.out.size)).mono HB1.out.size)
  clear ha
  go_wp2
  go_ret
  exact ⟨rfl, hBa⟩
end Go.Proofs.YtijohkhpigjbkaeGreatDoor
/-
  WALK: ExplainHolds.
-/
namespace Go.Proofs.YtijohkhpigjbkaeGreatDoor
open Go.RowKit

theorem prem_ok (m : Mod) (con : Int) (s : Sto) (v x : Int) (h : (premA m con s v x).2.2 = 0) : checkM m = 0 := by
  unfold premA at h
  by_cases h0 : (filterA m con s).2 = 0
  · exact (filterA_ok m con s h0).1
  · rw [if_neg h0] at h; exact absurd h h0

set_option maxHeartbeats 3200000 in
set_option maxRecDepth 100000 in
theorem eholds_any (m : Mod) (con : Int) (s : Sto) (v x : Int) (vals : List Int) (vs cs sv u : Value) (w : World) (hma : MArg w vs cs m) (hsa : RArg w sv s) (hu : IArg w u vals) (hT : TabT w) :
    Calls Tryz.prog 5 #[modV vs cs m, .int .i64 con, sv, .int .i64 v, .int .i64 x, u] w fun e w' => e = .returned (.bool true) ∧ Below w.heap.size w w' := by
  have HMA : Hid (∀ w', Below w.heap.size w w' → MArg w' vs cs m) := fun w' h => MArg.below h hma
  have HSA : Hid (∀ w', Below w.heap.size w w' → RArg w' sv s) := fun w' h => RArg.below h hsa
  have HV : Hid (∀ w', Below w.heap.size w w' → IArg w' u vals) := fun w' h => IArg.below h hu
  have HT : Hid (∀ w', Below w.heap.size w w' → TabT w') := fun w' h => hT.below h
  obtain ⟨⟨a1, c1, rfl, _, _⟩, ⟨a2, c2, rfl, _, _⟩⟩ := hma
  obtain ⟨a3, c3, rfl, _, _⟩ := hsa
  obtain ⟨a5, c5, rfl, _, _⟩ := hu
  unfold modV
  clear hT
  go_enter Tryz.func5, Tryz.ntmps5
  go_wp2_with fail
  refine (begun_explain _ (HT.out _ (below_alloc _ _))).mono ?_
  rintro e w1 ⟨rfl, hb1⟩
  go_wp2_with fail
  refine (begun_model _).mono ?_
  rintro e w2 ⟨rfl, hb2⟩
  go_wp2_with fail
  refine (begun_clause _).mono ?_
  rintro e w3 ⟨rfl, hb3⟩
  have hbx : Below (w.heap.size + 1) (w.alloc (.cells #[.slice a1 m.vars.length c1, .slice a2 m.cons.length c2, .int .i64 m.goal, .int .i64 m.var] 25)) w3 := by
    have e1 : (w.alloc (.cells #[.slice a1 m.vars.length c1, .slice a2 m.cons.length c2, .int .i64 m.goal, .int .i64 m.var] 25)).heap.size = w.heap.size + 1 := by simp
    rw [e1] at hb1
    exact (hb1.trans (hb2.mono (by have := hb1.size; rw [e1] at this; exact this))).trans (hb3.mono (by have h1 := hb1.size; have h2 := hb2.size; rw [e1] at h1; omega))
  have HB3 : Hid (Below w.heap.size w w3) := (below_alloc _ _).trans (hbx.mono (by omega))
  have HLW : Hid (w.heap.size < w3.heap.size) := by have := hbx.size; show _ < _; simp at this; omega
  have HQ : Hid (∀ Y, Below w3.heap.size w3 Y → Y.cell? ⟨w.heap.size, 0, none⟩ = some (.slice a1 m.vars.length c1) ∧ Y.cell? ⟨w.heap.size, 1, none⟩ = some (.slice a2 m.cons.length c2) ∧ Y.cell? ⟨w.heap.size, 2, none⟩ = some (.int .i64 m.goal) ∧ Y.cell? ⟨w.heap.size, 3, none⟩ = some (.int .i64 m.var) ∧ w.heap.size < Y.heap.size) := fun Y hY => by
    have hl := HLW.out
    exact ⟨(hY.cell (p := ⟨w.heap.size, 0, none⟩) hl).trans ((hbx.cell (p := ⟨w.heap.size, 0, none⟩) (by simp)).trans (World.cell?_alloc_at _ _ _ 0 (by simp))), (hY.cell (p := ⟨w.heap.size, 1, none⟩) hl).trans ((hbx.cell (p := ⟨w.heap.size, 1, none⟩) (by simp)).trans (World.cell?_alloc_at _ _ _ 1 (by simp))),
      (hY.cell (p := ⟨w.heap.size, 2, none⟩) hl).trans ((hbx.cell (p := ⟨w.heap.size, 2, none⟩) (by simp)).trans (World.cell?_alloc_at _ _ _ 2 (by simp))), (hY.cell (p := ⟨w.heap.size, 3, none⟩) hl).trans ((hbx.cell (p := ⟨w.heap.size, 3, none⟩) (by simp)).trans (World.cell?_alloc_at _ _ _ 3 (by simp))), Nat.lt_of_lt_of_le hl hY.size⟩
  have HTO : Hid (∀ Y, Below w3.heap.size w3 Y → Below w.heap.size w Y) := fun Y hY => HB3.out.trans (hY.mono HB3.out.size)
  clear hb1 hb2 hb3 hbx
  obtain ⟨R, hR⟩ : ∃ R, premA m con s v x = R := ⟨_, rfl⟩
  have HRM : Hid (R.2.2 = 0 → checkM m = 0) := fun h => prem_ok m con s v x (by rw [hR]; exact h)
  have HRH : Hid (R.2.1 = true → R.2.2 = 0 → hasS (beginS m.vars) vals = true → holdsA m con vals = (true, 0) → choldsA m R.1 vals = (true, 0)) := fun h1 h2 h3 h4 => prem_holds m con s v x vals R.1 (by rw [hR]; exact Prod.ext rfl (Prod.ext h1 h2)) h3 h4
  obtain ⟨G, hG⟩ : ∃ G, pfailA m con s = G := ⟨_, rfl⟩
  have HGH : Hid (G.2.1 = true → G.2.2 = 0 → hasS (beginS m.vars) vals = true → holdsA m con vals = (true, 0) → choldsA m G.1 vals = (true, 0)) := fun h1 h2 h3 h4 => pfail_holds m con s vals G.1 (by rw [hG]; exact Prod.ext rfl (Prod.ext h1 h2)) h3 h4
  have HR : Hid (premA m con s v x = R) := hR
  have HG : Hid (pfailA m con s = G) := hG
  obtain ⟨L1, B1, E1⟩ := R
  obtain ⟨L2, B2, E2⟩ := G
  dsimp only at HRM HRH HGH
  clear hR hG
  obtain ⟨k0, k1, k2, k3, k4⟩ := HQ.out _ (Below.refl _ _)
  go_wp2_with fail
  refine (removed_any m con s v x _ _ _ _ (HMA.out _ HB3.out) (HSA.out _ HB3.out) (HT.out _ HB3.out)).mono ?_
  rintro e w4 ⟨y, rfl, hy, hb4⟩
  have HB4 : Hid (Below w3.heap.size w3 w4) := hb4
  rw [HR.out] at hy ⊢
  have HY1 : Hid (∀ w', Below w4.heap.size w4 w' → LArg w' y L1) := fun w' h => LArg.below h hy
  obtain ⟨a6, c6, rfl, _, _⟩ := hy
  clear hb4 k0 k1 k2 k3 k4
  dsimp only
  obtain ⟨k0, k1, k2, k3, k4⟩ := HQ.out _ HB4.out
  go_wp2_with fail
  refine (failure_any m con s _ _ _ _ (HMA.out _ (HTO.out _ HB4.out)) (HSA.out _ (HTO.out _ HB4.out)) (HT.out _ (HTO.out _ HB4.out))).mono ?_
  rintro e w5 ⟨y, rfl, hy, hb5⟩
  have HB45 : Hid (Below w4.heap.size w4 w5) := hb5
  have HB5 : Hid (Below w3.heap.size w3 w5) := HB4.out.trans (hb5.mono HB4.out.size)
  rw [HG.out] at hy ⊢
  have HY2 : Hid (∀ w', Below w5.heap.size w5 w' → LArg w' y L2) := fun w' h => LArg.below h hy
  obtain ⟨a7, c7, rfl, _, _⟩ := hy
  clear hb5 k0 k1 k2 k3 k4
  dsimp only
  obtain ⟨k0, k1, k2, k3, k4⟩ := HQ.out _ HB5.out
  go_wp2_with fail
  refine (mholds_any m con vals _ _ _ _ (HMA.out _ (HTO.out _ HB5.out)) (HV.out _ (HTO.out _ HB5.out))).mono ?_
  rintro e w6 ⟨rfl, hb6⟩
  have HB56 : Hid (Below w5.heap.size w5 w6) := hb6
  have HB6 : Hid (Below w3.heap.size w3 w6) := HB5.out.trans (hb6.mono HB5.out.size)
  obtain ⟨H, EH, hH⟩ : ∃ H EH, holdsA m con vals = (H, EH) := ⟨_, _, rfl⟩
  have HH : Hid (holdsA m con vals = (H, EH)) := hH
  rw [hH]
  clear hb6 k0 k1 k2 k3 k4 hH
  dsimp only
  obtain ⟨k0, k1, k2, k3, k4⟩ := HQ.out _ HB6.out
  go_upto_region 6 with (fail)
  by_cases h1 : E1 = 0
  · subst h1
    have HCM : Hid (checkM m = 0) := HRM.out rfl
    have HR1 : Hid (B1 = true → hasS (beginS m.vars) vals = true → holdsA m con vals = (true, 0) → choldsA m L1 vals = (true, 0)) := fun h => HRH.out h rfl
    clear HRM HRH HR
    by_cases h2 : E2 = 0
    · subst h2
      have HG1 : Hid (B2 = true → hasS (beginS m.vars) vals = true → holdsA m con vals = (true, 0) → choldsA m L2 vals = (true, 0)) := fun h => HGH.out h rfl
      clear HGH HG
      by_cases h3 : EH = 0
      · subst h3
        cases H
        · go_wp2
          go_ret
          exact ⟨rfl, HTO.out _ HB6.out⟩
        · go_wp2_with fail
          refine (rbegin_any m HCM.out _ _ _ (HMA.out _ (HTO.out _ HB6.out))).mono ?_
          rintro e w7 ⟨z, rfl, hz, hb7⟩
          have HB67 : Hid (Below w6.heap.size w6 w7) := hb7
          have HB7 : Hid (Below w3.heap.size w3 w7) := HB6.out.trans (hb7.mono HB6.out.size)
          have HZ : Hid (RArg w7 z (beginS m.vars)) := hz
          obtain ⟨az, cz, rfl, _, _⟩ := hz
          clear hb7 k0 k1 k2 k3 k4
          obtain ⟨k0, k1, k2, k3, k4⟩ := HQ.out _ HB7.out
          go_wp2_with fail
          refine (has_any (beginS m.vars) vals _ _ _ HZ.out (HV.out _ (HTO.out _ HB7.out))).mono ?_
          rintro e w8 ⟨rfl, n8, h8⟩
          have HB78 : Hid (Below w7.heap.size w7 w8) := draws_below h8
          have HB8 : Hid (Below w3.heap.size w3 w8) := HB7.out.trans (HB78.out.mono HB7.out.size)
          clear h8 k0 k1 k2 k3 k4
          obtain ⟨k0, k1, k2, k3, k4⟩ := HQ.out _ HB8.out
          cases hs : hasS (beginS m.vars) vals
          · go_wp2
            go_ret
            exact ⟨rfl, HTO.out _ HB8.out⟩
          · have HS1 : Hid (B1 = true → choldsA m L1 vals = (true, 0)) := fun h => HR1.out h hs HH.out
            have HS2 : Hid (B2 = true → choldsA m L2 vals = (true, 0)) := fun h => HG1.out h hs HH.out
            have HB58 : Hid (Below w5.heap.size w5 w8) := HB56.out.trans ((HB67.out.trans (HB78.out.mono HB67.out.size)).mono HB56.out.size)
            have HB48 : Hid (Below w4.heap.size w4 w8) := HB45.out.trans (HB58.out.mono HB45.out.size)
            clear hs
            cases B1
            · cases B2
              · go_wp2
                go_ret
                exact ⟨rfl, HTO.out _ HB8.out⟩
              · have HS3 : Hid (choldsA m L2 vals = (true, 0)) := HS2.out rfl
                clear HS2
                go_wp2_with fail
                refine (cholds_any m L2 vals _ _ _ _ _ (HMA.out _ (HTO.out _ HB8.out)) (HY2.out _ HB58.out) (HV.out _ (HTO.out _ HB8.out))).mono ?_
                rintro e w9 ⟨rfl, hb9⟩
                rw [HS3.out]
                have HB9 : Hid (Below w3.heap.size w3 w9) := HB8.out.trans (hb9.mono HB8.out.size)
                clear hb9
                go_wp2
                go_ret
                exact ⟨rfl, HTO.out _ HB9.out⟩
            · have HS4 : Hid (choldsA m L1 vals = (true, 0)) := HS1.out rfl
              clear HS1
              go_wp2_with fail
              refine (cholds_any m L1 vals _ _ _ _ _ (HMA.out _ (HTO.out _ HB8.out)) (HY1.out _ HB48.out) (HV.out _ (HTO.out _ HB8.out))).mono ?_
              rintro e w9 ⟨rfl, hb9⟩
              rw [HS4.out]
              have HB9 : Hid (Below w3.heap.size w3 w9) := HB8.out.trans (hb9.mono HB8.out.size)
              have HB59 : Hid (Below w5.heap.size w5 w9) := HB58.out.trans (hb9.mono HB58.out.size)
              clear hb9 k0 k1 k2 k3 k4
              obtain ⟨k0, k1, k2, k3, k4⟩ := HQ.out _ HB9.out
              cases B2
              · go_wp2
                go_ret
                exact ⟨rfl, HTO.out _ HB9.out⟩
              · have HS3 : Hid (choldsA m L2 vals = (true, 0)) := HS2.out rfl
                clear HS2
                go_wp2_with fail
                refine (cholds_any m L2 vals _ _ _ _ _ (HMA.out _ (HTO.out _ HB9.out)) (HY2.out _ HB59.out) (HV.out _ (HTO.out _ HB9.out))).mono ?_
                rintro e wa ⟨rfl, hba⟩
                rw [HS3.out]
                have HBa : Hid (Below w3.heap.size w3 wa) := HB9.out.trans (hba.mono HB9.out.size)
                clear hba
                go_wp2
                go_ret
                exact ⟨rfl, HTO.out _ HBa.out⟩
      · have he : (EH != 0) = true := by simpa using h3
        clear h3
        go_wp2
        go_ret
        exact ⟨rfl, HTO.out _ HB6.out⟩
    · have he : (E2 != 0) = true := by simpa using h2
      clear h2
      go_wp2
      go_ret
      exact ⟨rfl, HTO.out _ HB6.out⟩
  · have he : (E1 != 0) = true := by simpa using h1
    clear h1
    go_wp2
    go_ret
    exact ⟨rfl, HTO.out _ HB6.out⟩
end Go.Proofs.YtijohkhpigjbkaeGreatDoor
/-
  Stores and clauses that came in, opened.
-/
namespace Go.Proofs.YtijohkhpigjbkaeGreatDoor
open Go.ChangeShapes Go.WideShapes Go.ChangeAt Go.RowKit Go.Deep

theorem Tryz.underClause : Tryz.prog.underlying 29 = some (.slice 42) := by kernel_rfl
section
variable {H : Type} {enc : TypeId × Value → H} {w : World} {base : Nat} {spare : Nat → Bool} {held : Bool}
/-- A store that came in. -/
theorem open_store {fuel : Nat} {cs : List Value} {x : DataW H × List MemPlace} (h : DataW.trod enc Tryz.prog w base spare held fuel 27 cs = some x) :
    ∃ v l, cs = [v] ∧ RArg w v l := by
  obtain ⟨l, a, c, hcs, hm, hr⟩ := open_elems (α := Value × List Int) Tryz.underStore Tryz.cInts (by decide) (fun z => [z.1]) (fun z => IArg w z.1 z.2)
    (fun n cs' x' h' => by obtain ⟨v, r, hz, hi⟩ := open_ilist h'; exact ⟨(v, r), hz, hi⟩) h
  refine ⟨_, l.map (·.2), hcs, a, c, by simp, by simpa using hm, fun i r hr' => ?_⟩
  rw [List.getElem?_map] at hr'
  obtain ⟨⟨v, r2⟩, hz, rfl⟩ := Option.map_eq_some_iff.1 hr'
  obtain ⟨hg, b, off, ha, hb, hc⟩ := hr i _ hz
  have := hc 0 _ rfl
  exact ⟨b, off, v, ha, hb, by simpa using this, hg⟩
/-- A clause that came in. -/
theorem open_cla {fuel : Nat} {cs : List Value} {x : DataW H × List MemPlace} (h : DataW.trod enc Tryz.prog w base spare held fuel 29 cs = some x) :
    ∃ v l, cs = [v] ∧ LArg w v l := by
  have hinh : Inhabited MLit := ⟨⟨0, 0, 0⟩⟩
  obtain ⟨l, a, c, hcs, hm, hr⟩ := open_elems (α := MLit) Tryz.underClause Tryz.cLit (by decide) (fun t => [.int .i64 t.var, .int .i64 t.op, .int .i64 t.n]) (fun _ => True)
    (fun n cs' x' h' => by obtain ⟨t, ht⟩ := one_lit h'; exact ⟨t, ht, trivial⟩) h
  refine ⟨_, l, hcs, a, c, rfl, hm, fun i z hz => ?_⟩
  obtain ⟨_, b, off, ha, hb, hc⟩ := hr i z hz
  have e0 := hc 0 _ rfl
  have e1 := hc 1 _ rfl
  have e2 := hc 2 _ rfl
  rw [← Nat.add_assoc] at e0 e1 e2
  exact ⟨b, off, ha, hb, e0, e1, e2⟩
end
end Go.Proofs.YtijohkhpigjbkaeGreatDoor
