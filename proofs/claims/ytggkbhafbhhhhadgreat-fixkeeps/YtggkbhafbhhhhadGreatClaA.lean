/-
  WALKS: package clause: Check, Holds, checkIn, Unit, Deny.
-/
import Derived.Test.YtggkbhafbhhhhadGreatFauB
import Derived.Test.YtggkbhafbhhhhadGreatNarB
import Derived.Test.YtggkbhafbhhhhadGreatStoE
namespace Go.Proofs.YtggkbhafbhhhhadGreat
open Go.RowKit

def ccheckA (m : Mod) (c : Cla) : Int := if checkM m = 0 then claE m.vars c else checkM m
def choldsA (m : Mod) (c : Cla) (vals : List Int) : Bool × Int := if ccheckA m c = 0 then (if vals.length = m.vars.length then (claB c vals, 0) else (false, 1)) else (false, ccheckA m c)
def cinE (m : Mod) (s : Sto) (c : Cla) : Int := if checkL m [s] = 0 then claE m.vars c else checkL m [s]
def cunitA (m : Mod) (s : Sto) (c : Cla) : Sto × Int := if cinE m s c = 0 then (unitS s c, 0) else ([], cinE m s c)
def cdenyA (m : Mod) (s : Sto) (c : Cla) : Sto × Int := if cinE m s c = 0 then (denyS s c, 0) else ([], cinE m s c)
theorem cinE_ok (m : Mod) (s : Sto) (c : Cla) (h : cinE m s c = 0) : checkL m [s] = 0 ∧ claE m.vars c = 0 := by
  unfold cinE at h
  split at h
  · rename_i h0; exact ⟨h0, h⟩
  · contradiction
theorem ccheck_ok (m : Mod) (c : Cla) (h : ccheckA m c = 0) : checkM m = 0 ∧ claE m.vars c = 0 := by
  unfold ccheckA at h
  split at h
  · rename_i h0; exact ⟨h0, h⟩
  · contradiction
theorem claE_fine (vs : List MVar) (c : Cla) (h : claE vs c = 0) : ∀ l ∈ c, 0 ≤ l.var ∧ l.var < (vs.length : Int) := by
  unfold claE at h
  split at h
  · cases h
  · intro l hl
    exact ((litE_ok vs l).1 (firstE_all _ h _ (List.mem_map.2 ⟨l, hl, rfl⟩))).1

set_option maxHeartbeats 800000 in
set_option maxRecDepth 100000 in
theorem ccheck_any (m : Mod) (c : Cla) (vs cs u : Value) (w : World) (hm : MArg w vs cs m) (hu : LArg w u c) :
    Calls Tryz.prog 43 #[modV vs cs m, u] w fun e w' => e = .returned (.int .i64 (ccheckA m c)) ∧ Below w.heap.size w w' := by
  have HMA : Hid (∀ w' : World, Below w.heap.size w w' → MArg w' vs cs m) := fun w' h => MArg.below h hm
  have HUA : Hid (∀ w' : World, Below w.heap.size w w' → LArg w' u c) := fun w' h => LArg.below h hu
  obtain ⟨⟨a1, c1, rfl, _, _⟩, ⟨a2, c2, rfl, _, _⟩⟩ := hm
  obtain ⟨a3, c3, rfl, _, _⟩ := hu
  obtain ⟨R, hR⟩ : ∃ R, ccheckA m c = R := ⟨_, rfl⟩
  rw [hR]
  obtain ⟨er, her⟩ : ∃ er, checkM m = er := ⟨_, rfl⟩
  have HER : Hid (checkM m = er) := her
  have HE : Hid (R = if er = 0 then claE m.vars c else er) := by rw [← hR, ← her]; rfl
  clear hR her
  unfold modV
  go_enter Tryz.func43, Tryz.ntmps43
  go_wp2_with fail
  refine (check_model m (.slice a1 m.vars.length c1) (.slice a2 m.cons.length c2) _ ?_).mono ?_
  · exact HMA.out _ (below_alloc _ _)
  rintro e w1 ⟨rfl, hb1⟩
  rw [HER.out]
  have g0 : w1.cell? ⟨w.heap.size, 0, none⟩ = some (.slice a1 m.vars.length c1) := (hb1.cell (by simp)).trans (by simp)
  have HB1 : Hid (Below w.heap.size w w1) := (below_alloc _ _).trans (hb1.mono (by simp))
  clear hb1
  by_cases he : er = 0
  · subst he
    have HN : Hid (R = claE m.vars c) := by rw [HE.out, if_pos rfl]; rfl
    go_wp2_with fail
    refine (cla_check m.vars c _ _ _ (HMA.out _ HB1.out).1 (HUA.out _ HB1.out)).mono ?_
    rintro e w2 ⟨rfl, hb2⟩
    have hb3 : Below w.heap.size w w2 := HB1.out.trans (hb2.mono HB1.out.size)
    clear hb2
    go_wp2
    go_ret
    exact ⟨ret_int HN.out.symm, hb3⟩
  · have HN : Hid (R = er) := by rw [HE.out, if_neg he]; rfl
    have he2 : (er != 0) = true := by simpa using he
    clear he
    go_wp2
    go_ret
    exact ⟨ret_int HN.out.symm, HB1.out⟩

set_option maxHeartbeats 800000 in
set_option maxRecDepth 100000 in
theorem cin_any (m : Mod) (s : Sto) (c : Cla) (vs cs v u : Value) (w : World) (hm : MArg w vs cs m) (hv : RArg w v s) (hu : LArg w u c) :
    Calls Tryz.prog 81 #[modV vs cs m, v, u] w fun e w' => e = .returned (.int .i64 (cinE m s c)) ∧ Below w.heap.size w w' := by
  have HMA : Hid (∀ w' : World, Below w.heap.size w w' → MArg w' vs cs m) := fun w' h => MArg.below h hm
  have HVA : Hid (∀ w' : World, Below w.heap.size w w' → RArg w' v s) := fun w' h => RArg.below h hv
  have HUA : Hid (∀ w' : World, Below w.heap.size w w' → LArg w' u c) := fun w' h => LArg.below h hu
  obtain ⟨⟨a1, c1, rfl, _, _⟩, ⟨a2, c2, rfl, _, _⟩⟩ := hm
  obtain ⟨a3, c3, rfl, _, _⟩ := hv
  obtain ⟨a4, c4, rfl, _, _⟩ := hu
  obtain ⟨R, hR⟩ : ∃ R, cinE m s c = R := ⟨_, rfl⟩
  rw [hR]
  obtain ⟨er, her⟩ : ∃ er, checkL m [s] = er := ⟨_, rfl⟩
  have HER : Hid (checkL m [s] = er) := her
  have HE : Hid (R = if er = 0 then claE m.vars c else er) := by rw [← hR, ← her]; rfl
  clear hR her
  unfold modV
  go_enter Tryz.func81, Tryz.ntmps81
  go_wp2_with fail
  refine (scheck_any m s (.slice a1 m.vars.length c1) (.slice a2 m.cons.length c2) _ _ ?_ ?_).mono ?_
  · exact HMA.out _ (below_alloc _ _)
  · exact HVA.out _ (below_alloc _ _)
  rintro e w1 ⟨rfl, hb1⟩
  rw [HER.out]
  have g0 : w1.cell? ⟨w.heap.size, 0, none⟩ = some (.slice a1 m.vars.length c1) := (hb1.cell (by simp)).trans (by simp)
  have HB1 : Hid (Below w.heap.size w w1) := (below_alloc _ _).trans (hb1.mono (by simp))
  clear hb1
  by_cases he : er = 0
  · subst he
    have HN : Hid (R = claE m.vars c) := by rw [HE.out, if_pos rfl]; rfl
    go_wp2_with fail
    refine (cla_check m.vars c _ _ _ (HMA.out _ HB1.out).1 (HUA.out _ HB1.out)).mono ?_
    rintro e w2 ⟨rfl, hb2⟩
    have hb3 : Below w.heap.size w w2 := HB1.out.trans (hb2.mono HB1.out.size)
    clear hb2
    go_wp2
    go_ret
    exact ⟨ret_int HN.out.symm, hb3⟩
  · have HN : Hid (R = er) := by rw [HE.out, if_neg he]; rfl
    have he2 : (er != 0) = true := by simpa using he
    clear he
    go_wp2
    go_ret
    exact ⟨ret_int HN.out.symm, HB1.out⟩

set_option maxHeartbeats 800000 in
set_option maxRecDepth 100000 in
theorem cholds_any (m : Mod) (c : Cla) (vals : List Int) (vs cs u v : Value) (w : World) (hm : MArg w vs cs m) (hu : LArg w u c) (hv : IArg w v vals) :
    Calls Tryz.prog 40 #[modV vs cs m, u, v] w fun e w' => e = .returned (.tuple #[.bool (choldsA m c vals).1, .int .i64 (choldsA m c vals).2]) ∧ Below w.heap.size w w' := by
  have HMA : Hid (∀ w' : World, Below w.heap.size w w' → MArg w' vs cs m) := fun w' h => MArg.below h hm
  have HUA : Hid (∀ w' : World, Below w.heap.size w w' → LArg w' u c) := fun w' h => LArg.below h hu
  have HVA : Hid (∀ w' : World, Below w.heap.size w w' → IArg w' v vals) := fun w' h => IArg.below h hv
  obtain ⟨⟨a1, c1, rfl, _, _⟩, ⟨a2, c2, rfl, _, _⟩⟩ := hm
  obtain ⟨a3, c3, rfl, _, _⟩ := hu
  obtain ⟨a4, c4, rfl, _, _⟩ := hv
  obtain ⟨R, hR⟩ : ∃ R, choldsA m c vals = R := ⟨_, rfl⟩
  rw [hR]
  obtain ⟨er, her⟩ : ∃ er, ccheckA m c = er := ⟨_, rfl⟩
  have HER : Hid (ccheckA m c = er) := her
  have HE : Hid (R = if er = 0 then (if vals.length = m.vars.length then (claB c vals, 0) else (false, 1)) else (false, er)) := by rw [← hR, ← her]; rfl
  clear hR her
  unfold modV
  go_enter Tryz.func40, Tryz.ntmps40
  go_wp2_with fail
  refine (ccheck_any m c (.slice a1 m.vars.length c1) (.slice a2 m.cons.length c2) _ _ ?_ ?_).mono ?_
  · exact HMA.out _ (below_alloc _ _)
  · exact HUA.out _ (below_alloc _ _)
  rintro e w1 ⟨rfl, hb1⟩
  rw [HER.out]
  have g0 : w1.cell? ⟨w.heap.size, 0, none⟩ = some (.slice a1 m.vars.length c1) := (hb1.cell (by simp)).trans (by simp)
  have HB1 : Hid (Below w.heap.size w w1) := (below_alloc _ _).trans (hb1.mono (by simp))
  clear hb1
  by_cases he : er = 0
  · subst he
    by_cases hl : vals.length = m.vars.length
    · have HN : Hid (R = (c.any (litB vals), 0)) := by rw [HE.out, if_pos rfl, if_pos hl]; rfl
      have HCI : Hid (∀ l ∈ c, 0 ≤ l.var ∧ l.var < (vals.length : Int)) := by rw [hl]; exact claE_fine _ _ (ccheck_ok m c HER.out).2
      have hq : ((vals.length : Int) != (m.vars.length : Int)) = false := by simp [hl]
      clear hl
      go_wp2_with fail
      refine (clause_true c vals _ _ _ (HUA.out _ HB1.out) (HVA.out _ HB1.out) HCI.out).mono ?_
      rintro e w2 ⟨rfl, hb2⟩
      have hb3 : Below w.heap.size w w2 := HB1.out.trans (hb2.mono HB1.out.size)
      obtain ⟨B, hB⟩ : ∃ B, c.any (litB vals) = B := ⟨_, rfl⟩
      rw [hB] at HN ⊢
      clear hb2 hB
      go_wp2
      go_ret2
      exact ⟨by rw [HN.out]; rfl, hb3⟩
    · have HN : Hid (R = (false, 1)) := by rw [HE.out, if_pos rfl, if_neg hl]; rfl
      have hq : ((vals.length : Int) != (m.vars.length : Int)) = true := by simp; omega
      clear hl
      go_wp2
      go_ret2
      exact ⟨by rw [HN.out]; rfl, HB1.out⟩
  · have HN : Hid (R = (false, er)) := by rw [HE.out, if_neg he]; rfl
    have he2 : (er != 0) = true := by simpa using he
    clear he
    go_wp2
    go_ret2
    exact ⟨by rw [HN.out]; rfl, HB1.out⟩

set_option maxHeartbeats 800000 in
set_option maxRecDepth 100000 in
theorem cunit_any (m : Mod) (s : Sto) (c : Cla) (vs cs v u : Value) (w : World) (hm : MArg w vs cs m) (hv : RArg w v s) (hu : LArg w u c) :
    Calls Tryz.prog 41 #[modV vs cs m, v, u] w fun e w' => ∃ x, e = .returned (.tuple #[x, .int .i64 (cunitA m s c).2]) ∧ RArg w' x (cunitA m s c).1 ∧ Below w.heap.size w w' := by
  have HMA : Hid (∀ w' : World, Below w.heap.size w w' → MArg w' vs cs m) := fun w' h => MArg.below h hm
  have HVA : Hid (∀ w' : World, Below w.heap.size w w' → RArg w' v s) := fun w' h => RArg.below h hv
  have HUA : Hid (∀ w' : World, Below w.heap.size w w' → LArg w' u c) := fun w' h => LArg.below h hu
  obtain ⟨⟨a1, c1, rfl, _, _⟩, ⟨a2, c2, rfl, _, _⟩⟩ := hm
  obtain ⟨a3, c3, rfl, _, _⟩ := hv
  obtain ⟨a4, c4, rfl, _, _⟩ := hu
  obtain ⟨R, hR⟩ : ∃ R, cunitA m s c = R := ⟨_, rfl⟩
  rw [hR]
  obtain ⟨er, her⟩ : ∃ er, cinE m s c = er := ⟨_, rfl⟩
  have HER : Hid (cinE m s c = er) := her
  have HE : Hid (R = if er = 0 then (unitS s c, 0) else ([], er)) := by rw [← hR, ← her]; rfl
  clear hR her
  unfold modV
  go_enter Tryz.func41, Tryz.ntmps41
  go_wp2_with fail
  refine (cin_any m s c (.slice a1 m.vars.length c1) (.slice a2 m.cons.length c2) _ _ _ ?_ ?_ ?_).mono ?_
  · exact HMA.out _ (below_alloc _ _)
  · exact HVA.out _ (below_alloc _ _)
  · exact HUA.out _ (below_alloc _ _)
  rintro e w1 ⟨rfl, hb1⟩
  rw [HER.out]
  have HB1 : Hid (Below w.heap.size w w1) := (below_alloc _ _).trans (hb1.mono (by simp))
  clear hb1
  by_cases he : er = 0
  · subst he
    obtain ⟨o1, o2⟩ := cinE_ok m s c HER.out
    obtain ⟨o3, o4⟩ := (checkL_one m s).1 o1
    obtain ⟨hn6, hr6⟩ := rows_short m s o3 o4
    have HR6 : Hid (∀ r ∈ s, r.length ≤ 6) := hr6
    have HCI : Hid (ClaIn s c) := by intro l hl; rw [((checkV_ok _ _).1 o4).1]; exact claE_fine _ _ o2 l hl
    obtain ⟨hn7, hr7⟩ := rows_short m (unitS s c) o3 (checkV_unit m.vars s c o4)
    have HR7 : Hid (∀ r ∈ unitS s c, r.length ≤ 6) := hr7
    have HN : Hid (R = (unitS s c, 0)) := by rw [HE.out, if_pos rfl]; rfl
    clear o1 o2 o3 o4 hr6 hr7
    go_wp2_with fail
    refine (unit_any s c _ _ _ (HVA.out _ HB1.out) (HUA.out _ HB1.out) HCI.out hn6 HR6.out).mono ?_
    rintro e w2 ⟨x, rfl, hx, hb2⟩
    obtain ⟨M, hM⟩ : ∃ M, unitS s c = M := ⟨_, rfl⟩
    rw [hM] at hx HN hn7 HR7
    have HX : Hid (RArg w2 x M) := hx
    obtain ⟨ax, cx, rfl, _, _⟩ := hx
    have HB2 : Hid (Below w.heap.size w w2) := HB1.out.trans (hb2.mono HB1.out.size)
    clear hb2 hM
    go_wp2_with fail
    refine (all_any M _ _ HX.out hn7 HR7.out).mono ?_
    rintro e w3 ⟨y, rfl, hy, hb3⟩
    have HY : Hid (RArg w3 y M) := hy
    obtain ⟨ay, cy, rfl, _, _⟩ := hy
    have hB3 : Below w.heap.size w w3 := HB2.out.trans (hb3.mono HB2.out.size)
    clear hb3
    go_wp2
    go_ret2
    rw [HN.out]
    exact ⟨_, rfl, HY.out, hB3⟩
  · have HN : Hid (R = ([], er)) := by rw [HE.out, if_neg he]; rfl
    have he2 : (er != 0) = true := by simpa using he
    clear he
    go_wp2
    go_ret2
    rw [HN.out]
    exact ⟨_, rfl, ⟨_, _, rfl, ⟨Nat.le_refl _, Nat.zero_le _⟩, fun i r h => by simp at h⟩, HB1.out⟩

set_option maxHeartbeats 400000 in
set_option maxRecDepth 100000 in
theorem denied_any (c : Cla) (k : Nat) (z : Int) (u : Value) (bc : Nat) (w : World) (hu : LArg w u c) (h1 : w.cell? ⟨bc, 0, none⟩ = some u) :
    Calls Tryz.prog 82 #[.int .i64 (k : Int), .int .i64 z, .pointer (some ⟨bc, 0, none⟩)] w fun e w' => e = .returned (.bool (!oneB c k z)) ∧ Below w.heap.size w w' := by
  have HU : Hid (LArg w u c) := hu
  obtain ⟨a, cc, rfl, _, _⟩ := hu
  go_enter Tryz.func82, Tryz.ntmps82
  go_wp2_with fail
  refine (one_of c k z _ _ HU.out).mono ?_
  rintro e w1 ⟨rfl, hb1⟩
  go_wp2
  go_ret
  exact ⟨rfl, hb1⟩
theorem enters_denied (args : Array Value) (w' : World) : Sem.run Tryz.prog (callFunc 82 args) w' = .ok (.enter 82 args) w' := by
  simp [callFunc, go_sem, Tryz.func82, Tryz.f82]

set_option maxHeartbeats 800000 in
set_option maxRecDepth 100000 in
theorem cdeny_any (m : Mod) (s : Sto) (c : Cla) (vs cs v u : Value) (w : World) (hm : MArg w vs cs m) (hv : RArg w v s) (hu : LArg w u c) :
    Calls Tryz.prog 42 #[modV vs cs m, v, u] w fun e w' => ∃ x, e = .returned (.tuple #[x, .int .i64 (cdenyA m s c).2]) ∧ RArg w' x (cdenyA m s c).1 ∧ Below w.heap.size w w' := by
  have HMA : Hid (∀ w' : World, Below w.heap.size w w' → MArg w' vs cs m) := fun w' h => MArg.below h hm
  have HVA : Hid (∀ w' : World, Below w.heap.size w w' → RArg w' v s) := fun w' h => RArg.below h hv
  have HUA : Hid (∀ w' : World, Below w.heap.size w w' → LArg w' u c) := fun w' h => LArg.below h hu
  obtain ⟨⟨a1, c1, rfl, _, _⟩, ⟨a2, c2, rfl, _, _⟩⟩ := hm
  obtain ⟨a3, c3, rfl, _, _⟩ := hv
  obtain ⟨a4, c4, rfl, _, _⟩ := hu
  obtain ⟨R, hR⟩ : ∃ R, cdenyA m s c = R := ⟨_, rfl⟩
  rw [hR]
  obtain ⟨er, her⟩ : ∃ er, cinE m s c = er := ⟨_, rfl⟩
  have HER : Hid (cinE m s c = er) := her
  have HE : Hid (R = if er = 0 then (denyS s c, 0) else ([], er)) := by rw [← hR, ← her]; rfl
  clear hR her
  unfold modV
  go_enter Tryz.func42, Tryz.ntmps42
  go_wp2_with fail
  refine (cin_any m s c (.slice a1 m.vars.length c1) (.slice a2 m.cons.length c2) _ _ _ ?_ ?_ ?_).mono ?_
  · exact HMA.out _ (nb2 _ _ _)
  · exact HVA.out _ (nb2 _ _ _)
  · exact HUA.out _ (nb2 _ _ _)
  rintro e w1 ⟨rfl, hb1⟩
  rw [HER.out]
  have d1 : w1.cell? ⟨w.heap.size + 1, 0, none⟩ = some (.slice a4 c.length c4) := (hb1.cell (by simp)).trans (World.cell?_alloc_at _ _ _ 0 (by simp))
  have HB1 : Hid (Below w.heap.size w w1) := (nb2 _ _ _).trans (hb1.mono (by simp; omega))
  have hs1 : w.heap.size + 2 ≤ w1.heap.size := by simpa using hb1.size
  clear hb1
  by_cases he : er = 0
  · subst he
    obtain ⟨o1, o2⟩ := cinE_ok m s c HER.out
    obtain ⟨o3, o4⟩ := (checkL_one m s).1 o1
    obtain ⟨hn6, hr6⟩ := rows_short m s o3 o4
    have HR6 : Hid (∀ r ∈ s, r.length ≤ 6) := hr6
    have HN : Hid (R = (siftS s (fun k z => !oneB c k z), 0)) := by rw [HE.out, if_pos rfl]; rfl
    clear o1 o2 o3 o4 hr6
    go_wp2_with fail
    refine (sift_any 82 _ s (fun k z => !oneB c k z) _ _ (HVA.out _ HB1.out) ⟨enters_denied, ?_⟩ hn6 HR6.out).mono ?_
    · intro k q z w' hk _ hb'
      exact denied_any c k z _ (w.heap.size + 1) w' (HUA.out _ (HB1.out.trans (hb'.mono HB1.out.size))) ((hb'.cell (by simp only; omega)).trans d1)
    rintro e w2 ⟨x, rfl, hx, hb2⟩
    obtain ⟨M, hM⟩ : ∃ M, siftS s (fun k z => !oneB c k z) = M := ⟨_, rfl⟩
    rw [hM] at hx HN
    have HX : Hid (RArg w2 x M) := hx
    obtain ⟨ax, cx, rfl, _, _⟩ := hx
    have hB2 : Below w.heap.size w w2 := HB1.out.trans (hb2.mono HB1.out.size)
    clear hb2 hM
    go_wp2
    go_ret2
    rw [HN.out]
    exact ⟨_, rfl, HX.out, hB2⟩
  · have HN : Hid (R = ([], er)) := by rw [HE.out, if_neg he]; rfl
    have he2 : (er != 0) = true := by simpa using he
    clear he
    go_wp2
    go_ret2
    rw [HN.out]
    exact ⟨_, rfl, ⟨_, _, rfl, ⟨Nat.le_refl _, Nat.zero_le _⟩, fun i r h => by simp at h⟩, HB1.out⟩
end Go.Proofs.YtggkbhafbhhhhadGreat
