/-
  WALKS: package text: Print.
-/
import Derived.Test.YtggkbhafbhhhhabGreatDoorPrE
namespace Go.Proofs.YtggkbhafbhhhhabGreatDoor
open Go.RowKit

set_option maxHeartbeats 1600000 in
set_option maxRecDepth 100000 in
theorem pstring_any (N B b : Nat) (vsl : Value) (l : List UInt8) (w : World) (h : PrS N B b vsl l w) (h0 : l ≠ []) :
    Calls Tryz.prog 29 #[.pointer (some ⟨b, 0, none⟩)] w fun e w' => e = .returned (.string ⟨l.toArray⟩) ∧ Below B w w' := by
  obtain ⟨_, _, _, _, p, buf, hp, hbk, hown⟩ := h
  have hl0 : l.length ≠ 0 := by simpa using h0
  obtain ⟨g, cap, cur, rfl, hbg, hg, hnc, hcm, hcs, htake⟩ : ∃ g cap cur, buf = .slice (some ⟨g, 0, none⟩) l.length cap ∧ B ≤ g ∧ w.heap[g]? = some (.cells cur 5 (0, 0)) ∧ l.length ≤ cap ∧ cap ≤ maxLen ∧ cur.size = cap * 1 ∧ cur.toList.take (l.length * 1) = Lib.byteCells l := by
    rcases hown.2 with ⟨_, hz⟩ | ⟨g, cap, cur, hv, r⟩
    · exact absurd hz hl0
    · exact ⟨g, cap, cur, hv, r⟩
  have c1 : w.drew.cell? ⟨b, 1, none⟩ = some (.slice (some ⟨g, 0, none⟩) l.length cap) := blk9 (w := w.drew) hbk 1 _ rfl
  have hSD : (Builtin.unsafeSliceData_ #[62] 105 #[.slice (some ⟨g, 0, none⟩) l.length cap]).run Tryz.prog w.drew = .ok (.pointer (some ⟨g, 0, none⟩)) w.drew :=
    Lib.run_unsafeSliceData_row _ _ _ _ _ _ (by omega)
  have hUS : (Builtin.unsafeString_ #[105, 3] 9 #[.pointer (some ⟨g, 0, none⟩), .int .i64 l.length]).run Tryz.prog w.drew = .ok (.string ⟨l.toArray⟩) (w.drew.freeze ⟨g, 0, none⟩ l.length) := by
    refine Lib.run_unsafeString_row w.drew 105 3 9 5 (by kernel_rfl) (by kernel_rfl) g cur.size (by have hg' : w.drew.heap[g]? = some (.cells cur 5 (0, 0)) := hg; simp [World.shape?, hg']) l h0 (by omega) (by unfold maxLen at hcm; omega) ?_
    intro j x hx
    have := hown.cells (g := g) rfl j (.int .u8 x.toNat) (by simp [Lib.byteCells, hx])
    exact this
  have HE : Hid (Below B w (w.drew.freeze ⟨g, 0, none⟩ l.length)) := Lib.below_freeze (Below.drew (Below.refl B w)) (p := ⟨g, 0, none⟩) hbg _
  clear hown htake hg hbk
  go_enter Tryz.func29, Tryz.ntmps29
  go_wp2
  go_region
  all_goals (go_wp2; go_ret; exact ⟨rfl, HE.out⟩)
/-- What Print answers. -/
def printA (m : Mod) : ByteArray × Int := if checkM m = 0 then (⟨(modB m).toArray⟩, 0) else (⟨#[]⟩, checkM m)
theorem goalLine_ne (m : Mod) : modB m ≠ [] := by
  unfold modB
  intro h
  have h1 := congrArg List.length h
  simp only [List.length_append, List.length_nil] at h1
  have h2 : 0 < (goalLine m).length := by
    unfold goalLine
    split <;> (unfold lineL; simp)
  omega
set_option maxHeartbeats 1600000 in
set_option maxRecDepth 100000 in
theorem print_any (N : Nat) (m : Mod) (vs cs : Value) (w : World) (hm : MArg w vs cs m) (ht : TabN N w) (hN : N ≤ w.heap.size) :
    Calls Tryz.prog 10 #[modV vs cs m] w fun e w' => e = .returned (.tuple #[.string (printA m).1, .int .i64 (printA m).2]) ∧ Below w.heap.size w w' := by
  have HM : Hid (MArg w vs cs m) := hm
  have HT : Hid (TabN N w) := ht
  obtain ⟨er, her⟩ : ∃ er, checkM m = er := ⟨_, rfl⟩
  obtain ⟨st, hst⟩ : ∃ st, (⟨(modB m).toArray⟩ : ByteArray) = st := ⟨_, rfl⟩
  have HER : Hid (checkM m = er) := her
  have HST : Hid ((⟨(modB m).toArray⟩ : ByteArray) = st) := hst
  have HPA : Hid (printA m = if er = 0 then (st, 0) else (⟨#[]⟩, er)) := by show _ = _; unfold printA; rw [her, hst]
  rw [HPA.out]
  clear her hst ht
  obtain ⟨⟨a1, c1, rfl, _, _⟩, ⟨a2, c2, rfl, _, _⟩⟩ := hm
  unfold modV
  go_enter Tryz.func10, Tryz.ntmps10
  go_wp2_with fail
  obtain ⟨W, hW⟩ : ∃ W, W = w.alloc (.cells #[.slice a1 m.vars.length c1, .slice a2 m.cons.length c2, .int .i64 m.goal, .int .i64 m.var] 25) := ⟨_, rfl⟩
  have HBW : Hid (Below w.heap.size w W) := by show Below _ _ _; rw [hW]; exact below_alloc _ _
  have HQ : Hid (W.heap[w.heap.size]? = some (.cells #[.slice a1 m.vars.length c1, .slice a2 m.cons.length c2, .int .i64 m.goal, .int .i64 m.var] 25)) := by show _ = _; rw [hW]; exact heap_alloc_new _ _
  rw [← hW]
  clear hW
  refine (check_model m _ _ W (MArg.below HBW.out HM.out)).mono ?_
  rw [HER.out]
  rintro e w1 ⟨rfl, hb1⟩
  have HB1 : Hid (Below w.heap.size w w1) := HBW.out.trans (hb1.mono HBW.out.size)
  have HQ1 : Hid (w1.heap[w.heap.size]? = some (.cells #[.slice a1 m.vars.length c1, .slice a2 m.cons.length c2, .int .i64 m.goal, .int .i64 m.var] 25)) := (hb1.block _ (Array.getElem?_eq_some_iff.1 HQ.out).1).trans HQ.out
  clear hb1
  cases t0 : (er == 0)
  · have he : ¬ er = 0 := by simpa using t0
    go_wp2
    go_ret2
    exact ⟨rfl, HB1.out⟩
  · have he : er = 0 := by simpa using t0
    subst he
    have k0 : w1.cell? ⟨w.heap.size, 0, none⟩ = some (.slice a1 m.vars.length c1) := blk9 HQ1.out 0 _ rfl
    have k1 : w1.cell? ⟨w.heap.size, 1, none⟩ = some (.slice a2 m.cons.length c2) := blk9 HQ1.out 1 _ rfl
    have k2 : w1.cell? ⟨w.heap.size, 2, none⟩ = some (.int .i64 m.goal) := blk9 HQ1.out 2 _ rfl
    have k3 : w1.cell? ⟨w.heap.size, 3, none⟩ = some (.int .i64 m.var) := blk9 HQ1.out 3 _ rfl
    have hlt : w.heap.size < w1.heap.size := (Array.getElem?_eq_some_iff.1 HQ1.out).1
    go_wp2_with fail
    obtain ⟨W2, hW2⟩ : ∃ W2, W2 = w1.alloc (.cells #[.pointer none, .slice none 0 0, .slice a1 m.vars.length c1] 66) := ⟨_, rfl⟩
    have HB2 : Hid (Below w1.heap.size w1 W2) := by show Below _ _ _; rw [hW2]; exact below_alloc _ _
    have HQ2 : Hid (W2.heap[w1.heap.size]? = some (.cells #[.pointer none, .slice none 0 0, .slice a1 m.vars.length c1] 66)) := by show _ = _; rw [hW2]; exact heap_alloc_new _ _
    rw [← hW2]
    clear hW2
    have HCV := checkM_vars m HER.out
    refine (show Calls Tryz.prog 28 #[.pointer (some ⟨w1.heap.size, 0, none⟩), modV (.slice a1 m.vars.length c1) (.slice a2 m.cons.length c2) m] W2 _ from pmodel_any N w1.heap.size m _ _ w1 W2 (MArg.below HB1.out HM.out) HB2.out (Nat.le_refl _) (by omega) ((HT.out.below HB1.out).below HB2.out) HQ2.out (mod_ok m HER.out) HCV.2.1 HCV.2.2.1).mono ?_
    rintro e w3 ⟨rfl, hp3, hf3⟩
    have HP3 : Hid (PrS N (W2.heap.size + 1) w1.heap.size (.slice a1 m.vars.length c1) (modB m) w3) := hp3
    have HB3 : Hid (Below w.heap.size w w3) := HB1.out.trans ((fr_below9 HB2.out hf3 (Nat.le_refl _) HB2.out.size).mono HB1.out.size)
    have hws : w.heap.size ≤ W2.heap.size + 1 := by have := HB2.out.size; omega
    clear hp3 hf3 HCV k0 k1 k2 k3
    go_wp2_with fail
    refine (pstring_any N _ _ _ (modB m) w3 HP3.out (goalLine_ne m)).mono ?_
    rw [HST.out]
    rintro e w4 ⟨rfl, hb4⟩
    have HB4 : Hid (Below w.heap.size w w4) := HB3.out.trans (hb4.mono hws)
    clear hb4
    go_wp2
    go_ret2
    exact ⟨rfl, HB4.out⟩
end Go.Proofs.YtggkbhafbhhhhabGreatDoor
