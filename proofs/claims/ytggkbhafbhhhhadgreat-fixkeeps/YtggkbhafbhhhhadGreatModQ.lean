/-
  WALKS: package model: checkWithCon, Holds, All.
-/
import Derived.Test.YtggkbhafbhhhhadGreatModO
namespace Go.Proofs.YtggkbhafbhhhhadGreat
open Go.RowKit

def conCheck (m : Mod) (con : Int) : Int := if checkM m = 0 then (if con < 0 ∨ (m.cons.length : Int) ≤ con then 5 else 0) else checkM m
def noCon : MCon := ⟨0, [], [], 0, [], []⟩
def holdsA (m : Mod) (con : Int) (vals : List Int) : Bool × Int :=
  if conCheck m con = 0 then
    (if vals.length = m.vars.length then (if vals.all (fun x => inB x 50) then (holdsC (m.cons.getD con.toNat noCon) vals, 0) else (false, 3)) else (false, 1))
  else (false, conCheck m con)
def insideV (v : MVar) (x : Int) : Bool := !decide (x < v.lo) && !decide (v.hi < x)
def allA (m : Mod) (vals : List Int) : Bool × Int :=
  if checkM m = 0 then
    (if vals.length = m.vars.length then ((m.vars.zip vals).all (fun p => insideV p.1 p.2) && m.cons.all (fun c => holdsC c vals), 0) else (false, 1))
  else (false, checkM m)

set_option maxHeartbeats 800000 in
set_option maxRecDepth 100000 in
theorem check_con (m : Mod) (con : Int) (vs cs : Value) (w : World) (hm : MArg w vs cs m) :
    Calls Tryz.prog 73 #[modV vs cs m, .int .i64 con] w fun e w' => e = .returned (.int .i64 (conCheck m con)) ∧ Below w.heap.size w w' := by
  have HMA : Hid (∀ w' : World, Below w.heap.size w w' → MArg w' vs cs m) := fun w' h => MArg.below h hm
  obtain ⟨⟨a1, c1, rfl, _, _⟩, ⟨a2, c2, rfl, hl2, _⟩⟩ := hm
  unfold maxLen at hl2
  obtain ⟨hl21, hl2⟩ := hl2
  obtain ⟨R, hR⟩ : ∃ R, conCheck m con = R := ⟨_, rfl⟩
  rw [hR]
  obtain ⟨er, her⟩ : ∃ er, checkM m = er := ⟨_, rfl⟩
  have HER : Hid (checkM m = er) := her
  have HE : Hid (R = if er = 0 then (if con < 0 ∨ (m.cons.length : Int) ≤ con then 5 else 0) else er) := by rw [← hR, ← her]; rfl
  clear hR her
  unfold modV
  go_enter Tryz.func73, Tryz.ntmps73
  go_wp2_with fail
  refine (check_model m (.slice a1 m.vars.length c1) (.slice a2 m.cons.length c2) _ ?_).mono ?_
  · exact HMA.out _ (below_alloc _ _)
  rintro e w1 ⟨rfl, hb1⟩
  rw [HER.out]
  have d1 : w1.cell? ⟨w.heap.size, 1, none⟩ = some (.slice a2 m.cons.length c2) := (hb1.cell (by simp)).trans (by simp)
  have HB1 : Hid (Below w.heap.size w w1) := (below_alloc _ _).trans (hb1.mono (by simp))
  clear hb1
  by_cases he : er = 0
  · subst he
    by_cases q1 : con < 0
    · have HN : Hid (R = 5) := by rw [HE.out, if_pos rfl, if_pos (Or.inl q1)]; rfl
      go_wp2
      go_ret
      exact ⟨ret_int HN.out.symm, HB1.out⟩
    · by_cases q2 : (m.cons.length : Int) ≤ con
      · have HN : Hid (R = 5) := by rw [HE.out, if_pos rfl, if_pos (Or.inr q2)]; rfl
        go_wp2
        go_ret
        exact ⟨ret_int HN.out.symm, HB1.out⟩
      · have HN : Hid (R = 0) := by rw [HE.out, if_pos rfl, if_neg (by omega)]; rfl
        go_wp2
        go_ret
        exact ⟨ret_int HN.out.symm, HB1.out⟩
  · have HN : Hid (R = er) := by rw [HE.out, if_neg he]; rfl
    have he2 : (er != 0) = true := by simpa using he
    clear he
    go_wp2
    go_ret
    exact ⟨ret_int HN.out.symm, HB1.out⟩

theorem conCheck_ok (m : Mod) (con : Int) (h : conCheck m con = 0) : checkM m = 0 ∧ 0 ≤ con ∧ con < m.cons.length := by
  unfold conCheck at h
  split at h
  · rename_i h0
    split at h
    · cases h
    · exact ⟨h0, by omega, by omega⟩
  · contradiction

end Go.Proofs.YtggkbhafbhhhhadGreat
