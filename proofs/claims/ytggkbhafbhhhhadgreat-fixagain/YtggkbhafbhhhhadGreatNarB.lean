/-
  WALK: package narrow: Unit.
-/
import Derived.Test.YtggkbhafbhhhhadGreatNarA
import Derived.Deep.RegionHeld3
import Derived.Laws.EntriesVeiled
namespace Go.Proofs.YtggkbhafbhhhhadGreat
open Go.RowKit

theorem nb2 (w : World) (o1 o2 : Obj) : Below w.heap.size w ((w.alloc o1).alloc o2) := (below_alloc _ _).alloc (by simp) _
theorem nb3 (w : World) (o1 o2 o3 : Obj) : Below w.heap.size w (((w.alloc o1).alloc o2).alloc o3) := ((below_alloc _ _).alloc (by simp) _).alloc (by simp; omega) _
theorem held_call {w2 Y w3 : World} {A : Prop} (h : Below w2.heap.size w2 Y ∧ A) (hb : Below Y.heap.size Y w3) : Below w2.heap.size w2 w3 := h.1.trans (hb.mono h.1.size)

set_option maxHeartbeats 1600000 in
set_option maxRecDepth 100000 in
theorem unit_any (s : Sto) (c : Cla) (v u : Value) (w : World) (hv : RArg w v s) (hu : LArg w u c) (hc : ClaIn s c) (hn : s.length ≤ 6) (hr6 : ∀ r ∈ s, r.length ≤ 6) :
    Calls Tryz.prog 62 #[v, u] w fun e w' => ∃ x, e = .returned x ∧ RArg w' x (unitS s c) ∧ Below w.heap.size w w' := by
  have HVA : Hid (∀ w' : World, Below w.heap.size w w' → RArg w' v s) := fun w' h => RArg.below h hv
  have HUA : Hid (∀ w' : World, Below w.heap.size w w' → LArg w' u c) := fun w' h => LArg.below h hu
  have HC : Hid (∀ l ∈ c, 0 ≤ l.var ∧ l.var < (s.length : Int)) := hc
  have HR6 : Hid (∀ r ∈ s, r.length ≤ 6) := hr6
  obtain ⟨a1, c1, rfl, hm1, _⟩ := hv
  obtain ⟨a2, c2, rfl, hm2, _⟩ := hu
  unfold maxLen at hm1 hm2
  obtain ⟨hm11, hm1⟩ := hm1
  obtain ⟨hm21, hm2⟩ := hm2
  obtain ⟨F, hF⟩ : ∃ F, failedS s = F := ⟨_, rfl⟩
  have HF : Hid (failedS s = F) := hF
  clear hc hr6 hF
  go_enter Tryz.func62, Tryz.ntmps62
  go_wp2_with fail
  refine (sift_failed s _ _ (HVA.out _ (nb2 _ _ _))).mono ?_
  rintro e w0 ⟨rfl, rfl⟩
  rw [HF.out]
  cases F
  · go_wp2_with fail
    refine (indexf_lits 102 _ (liveB s) c _ _ (HUA.out _ (nb3 _ _ _ _)) ⟨enters_live, ?_⟩).mono ?_
    · intro l w' hl hb'
      exact live_any s l _ w.heap.size w' (HVA.out _ ((nb3 _ _ _ _).trans (hb'.mono (by simp; omega)))) ((hb'.cell (by simp; omega)).trans ((World.cell?_alloc_past _ _ _ (by simp; omega)).trans ((World.cell?_alloc_past _ _ _ (by simp)).trans (World.cell?_alloc_at _ _ _ 0 (by simp))))) (HC.out l hl).1 (HC.out l hl).2
    rintro e w1 ⟨⟨z, rfl, hz⟩, hb1⟩
    have d0 : w1.cell? ⟨w.heap.size, 0, none⟩ = some (.slice a1 s.length c1) := (hb1.cell (by simp; omega)).trans ((World.cell?_alloc_past _ _ _ (by simp; omega)).trans ((World.cell?_alloc_past _ _ _ (by simp)).trans (World.cell?_alloc_at _ _ _ 0 (by simp))))
    have d1 : w1.cell? ⟨w.heap.size + 1, 0, none⟩ = some (.slice a2 c.length c2) := (hb1.cell (by simp)).trans ((World.cell?_alloc_past _ _ _ (by simp)).trans (World.cell?_alloc_at _ _ _ 0 (by simp)))
    have d2 : w1.cell? ⟨w.heap.size + 2, 0, none⟩ = some (.func (.func 102) #[] #[.pointer (some ⟨w.heap.size, 0, none⟩)]) := (hb1.cell (by simp)).trans (World.cell?_alloc_at _ _ _ 0 (by simp))
    have HB1 : Hid (Below w.heap.size w w1) := (nb3 _ _ _ _).trans (hb1.mono (by simp; omega))
    have hs1 : w.heap.size + 3 ≤ w1.heap.size := by simpa using hb1.size
    clear hb1
    rcases hz with ⟨rfl, hno⟩ | ⟨k, t, rfl, ht, hlt⟩
    · have HU : Hid (unitS s c = clearS s) := by show _ = _; rw [unit_none s c HF.out hno, clear_sift]
      clear hno
      go_wp2_with fail
      refine (none_any s _ _ (HVA.out _ HB1.out) hn).mono ?_
      rintro e w2 ⟨x, rfl, hx, hb2⟩
      have HX : Hid (RArg w2 x (clearS s)) := hx
      obtain ⟨ax, cx, rfl, _, _⟩ := hx
      have hB2 : Below w.heap.size w w2 := HB1.out.trans (hb2.mono HB1.out.size)
      clear hb2
      go_wp2
      go_ret
      rw [HU.out]
      exact ⟨_, rfl, HX.out, hB2⟩
    · have HM : Hid (t ∈ c) := List.mem_of_getElem? ht
      have HLV : Hid (liveB s t = true) := hlt
      have hkl : k < c.length := (List.getElem?_eq_some_iff.1 ht).1
      obtain ⟨a2', c2', hva, _, hrc⟩ := HUA.out _ HB1.out
      obtain ⟨b, off, hax, hb, g0, _, _⟩ := hrc k t ht
      have ha2 : a2 = some ⟨b, off, none⟩ := by cases hva; exact hax
      subst ha2
      obtain ⟨q1, q2⟩ := HC.out t HM.out
      obtain ⟨j, hj⟩ : ∃ j : Nat, t.var = (j : Int) := ⟨t.var.toNat, by omega⟩
      have HJ : Hid (t.var = (j : Int)) := hj
      rw [hj] at g0
      have hjl : j < s.length := by omega
      obtain ⟨r, hr⟩ : ∃ r, s[j]? = some r := ⟨s[j], by simp [hjl]⟩
      have HRR : Hid (s[j]? = some r) := hr
      clear hva hrc hax ht hlt q1 q2 hj hr
      have l0 : w.heap.size < w1.heap.size := by omega
      have l1 : w.heap.size + 1 < w1.heap.size := by omega
      have l2 : w.heap.size + 2 < w1.heap.size := by omega
      go_wp2_with fail
      refine (containsf_lits 105 _ (fun l => !decide (l.var = (j : Int)) && liveB s l) c _ _ (HUA.out _ (HB1.out.alloc HB1.out.size _)) ⟨enters_other, ?_⟩).mono ?_
      · intro l w' hl hb'
        exact other_any s l j _ w.heap.size w1.heap.size (w.heap.size + 2) w' (HVA.out _ ((HB1.out.alloc HB1.out.size _).trans (hb'.mono (by simp; omega)))) ((hb'.cell (by simp; omega)).trans ((World.cell?_alloc_past _ _ _ l0).trans d0)) ((hb'.cell (by simp)).trans (World.cell?_alloc_at _ _ _ 0 (by simp))) ((hb'.cell (by simp; omega)).trans ((World.cell?_alloc_past _ _ _ l2).trans d2)) (HC.out l hl).1 (HC.out l hl).2
      rintro e w2 ⟨rfl, hb2⟩
      have e0 : w2.cell? ⟨w.heap.size, 0, none⟩ = some (.slice a1 s.length c1) := (hb2.cell (by simp; omega)).trans ((World.cell?_alloc_past _ _ _ l0).trans d0)
      have e1 : w2.cell? ⟨w.heap.size + 1, 0, none⟩ = some (.slice (some ⟨b, off, none⟩) c.length c2) := (hb2.cell (by simp; omega)).trans ((World.cell?_alloc_past _ _ _ l1).trans d1)
      have e2 : w2.cell? ⟨w1.heap.size, 0, none⟩ = some (.int .i64 (j : Int)) := (hb2.cell (by simp)).trans (World.cell?_alloc_at _ _ _ 0 (by simp))
      have HB2 : Hid (Below w.heap.size w w2) := (HB1.out.alloc HB1.out.size _).trans (hb2.mono (by simp; omega))
      have hs2 : w1.heap.size + 1 ≤ w2.heap.size := by simpa using hb2.size
      obtain ⟨O, hO⟩ : ∃ O, c.any (fun l => !decide (l.var = (j : Int)) && liveB s l) = O := ⟨_, rfl⟩
      have HO : Hid (c.any (fun l => !decide (l.var = t.var) && liveB s l) = O) := by show _ = _; rw [HJ.out]; exact hO
      rw [hO]
      clear hb2 hO d0 d1 d2 g0
      cases O
      · -- all live ones are of one variable
        obtain ⟨W, hW⟩ : ∃ W : World, W = w2.alloc (.cells #[.func (.func 107) #[] #[.pointer (some ⟨w.heap.size + 1, 0, none⟩), .pointer (some ⟨w1.heap.size, 0, none⟩)]] 80) := ⟨_, rfl⟩
        have HW : Hid (W = w2.alloc (.cells #[.func (.func 107) #[] #[.pointer (some ⟨w.heap.size + 1, 0, none⟩), .pointer (some ⟨w1.heap.size, 0, none⟩)]] 80)) := hW
        have m0 : w.heap.size < w2.heap.size := by omega
        have m1 : w.heap.size + 1 < w2.heap.size := by omega
        have m2 : w1.heap.size < w2.heap.size := by omega
        have HBW : Hid (Below w.heap.size w W) := by rw [hW]; exact HB2.out.alloc HB2.out.size _
        have k0 : W.cell? ⟨w.heap.size, 0, none⟩ = some (.slice a1 s.length c1) := by rw [hW]; exact (World.cell?_alloc_past _ _ _ m0).trans e0
        have k1 : W.cell? ⟨w.heap.size + 1, 0, none⟩ = some (.slice (some ⟨b, off, none⟩) c.length c2) := by rw [hW]; exact (World.cell?_alloc_past _ _ _ m1).trans e1
        have k2 : W.cell? ⟨w1.heap.size, 0, none⟩ = some (.int .i64 (j : Int)) := by rw [hW]; exact (World.cell?_alloc_past _ _ _ m2).trans e2
        have k3 : W.cell? ⟨w2.heap.size, 0, none⟩ = some (.func (.func 107) #[] #[.pointer (some ⟨w.heap.size + 1, 0, none⟩), .pointer (some ⟨w1.heap.size, 0, none⟩)]) := by rw [hW]; simp
        have hsW : W.heap.size = w2.heap.size + 1 := by rw [hW]; simp
        have HSW : Hid (W.heap.size = w2.heap.size + 1) := hsW
        have n0 : w.heap.size < W.heap.size := by omega
        have n1 : w.heap.size + 1 < W.heap.size := by omega
        have n2 : w1.heap.size < W.heap.size := by omega
        have n3 : w2.heap.size < W.heap.size := by omega
        obtain ⟨a1', c1', hva, _, hrc⟩ := HVA.out _ HBW.out
        obtain ⟨b9, off9, x, hax, hb9, g9, hix⟩ := hrc j r HRR.out
        have ha1 : a1 = some ⟨b9, off9, none⟩ := by cases hva; exact hax
        subst ha1
        have HIX : Hid (∀ w' : World, Below W.heap.size W w' → IArg w' x r) := fun w' h => IArg.below h hix
        obtain ⟨a5, c5, rfl, _, _⟩ := hix
        have HGO : Hid (∀ Y : World, Below W.heap.size W Y → Calls Tryz.prog 51 #[.slice a5 r.length c5, .func (.func 107) #[] #[.pointer (some ⟨w.heap.size + 1, 0, none⟩), .pointer (some ⟨w1.heap.size, 0, none⟩)]] Y fun e w' => e = .returned (.bool (r.any fun z => !oneB c j z)) ∧ Below Y.heap.size Y w') := by
          intro Y hY
          refine containsf_ints 107 _ (fun z => !oneB c j z) r _ _ (HIX.out _ hY) ⟨enters_goes, ?_⟩
          intro z w' hb'
          have hB' : Below W.heap.size W w' := hY.trans (hb'.mono hY.size)
          exact goes_any c j z _ (w.heap.size + 1) w1.heap.size w' (HUA.out _ (HBW.out.trans (hB'.mono HBW.out.size))) ((hB'.cell (p := ⟨w.heap.size + 1, 0, none⟩) n1).trans k1) ((hB'.cell (p := ⟨w1.heap.size, 0, none⟩) n2).trans k2)
        obtain ⟨G, hG⟩ : ∃ G, (r.any fun z => !oneB c j z) = G := ⟨_, rfl⟩
        have HG : Hid ((r.any fun z => !oneB c j z) = G) := hG
        rw [hG] at HGO
        clear hW hsW hva hrc hax hG e0 e1 e2 HSW
        go_wp2_with fail
        rw [← HW.out]
        clear HW
        go_region_held3 (fun w' => Below W.heap.size W w' ∧ w'.cell? ⟨w.heap.size, 0, none⟩ = some (.slice (some ⟨b9, off9, none⟩) s.length c1) ∧ w'.cell? ⟨w1.heap.size, 0, none⟩ = some (.int .i64 (j : Int)) ∧ w'.cell? ⟨w2.heap.size, 0, none⟩ = some (.func (.func 107) #[] #[.pointer (some ⟨w.heap.size + 1, 0, none⟩), .pointer (some ⟨w1.heap.size, 0, none⟩)]) ∧ w'.cell? ⟨b9, off9 + j, none⟩ = some (.slice a5 r.length c5))
          ((refine (fun (hB : Below W.heap.size W _) => ⟨hB, (hB.cell (p := ⟨w.heap.size, 0, none⟩) n0).trans k0, (hB.cell (p := ⟨w1.heap.size, 0, none⟩) n2).trans k2, (hB.cell (p := ⟨w2.heap.size, 0, none⟩) n3).trans k3, (hB.cell (p := ⟨b9, off9 + j, none⟩) hb9).trans g9⟩ : Below W.heap.size W _ → _) ?_; first | exact (Below.refl _ _).drew | exact held_call (by assumption) hbq))
          (first
            | (go_at_call 51; refine (HGO.out _ (show Below W.heap.size W _ ∧ _ ∧ _ ∧ _ ∧ _ by assumption).1).mono ?_; rintro e w3 ⟨rfl, hbq⟩; have hB3 := held_call (by assumption) hbq))
        have HB3 : Hid (Below W.heap.size W w3) := by first | exact hB3 | assumption
        have HB4 : Hid (Below w.heap.size w w3) := HBW.out.trans (HB3.out.mono HBW.out.size)
        have p0 := (HB3.out.cell (p := ⟨w.heap.size, 0, none⟩) n0).trans k0
        cases G
        · have HU : Hid (unitS s c = s) := unit_stays s c HF.out t HM.out HLV.out HO.out j r HJ.out HRR.out HG.out
          go_wp2
          go_ret
          rw [HU.out]
          exact ⟨_, rfl, HVA.out _ HB4.out, HB4.out⟩
        · have HU : Hid (unitS s c = siftS s (fun k z => decide ((k : Int) ≠ (j : Int)) || oneB c k z)) := by show _ = _; rw [unit_one s c HF.out t HM.out HLV.out HO.out, HJ.out]
          go_wp2_with fail
          refine (sift_any 108 _ s (fun k z => decide ((k : Int) ≠ (j : Int)) || oneB c k z) _ _ (HVA.out _ HB4.out) ⟨enters_left, ?_⟩ hn HR6.out).mono ?_
          · intro k q z w' hk _ hb'
            have hB' : Below W.heap.size W w' := HB3.out.trans (hb'.mono HB3.out.size)
            exact left_any c j k z _ (w.heap.size + 1) w1.heap.size w2.heap.size w' (HUA.out _ (HBW.out.trans (hB'.mono HBW.out.size))) ((hB'.cell (p := ⟨w.heap.size + 1, 0, none⟩) n1).trans k1) ((hB'.cell (p := ⟨w1.heap.size, 0, none⟩) n2).trans k2) ((hB'.cell (p := ⟨w2.heap.size, 0, none⟩) n3).trans k3)
          rintro e w4 ⟨x, rfl, hx, hb4⟩
          obtain ⟨M, hM⟩ : ∃ M, siftS s (fun k z => decide ((k : Int) ≠ (j : Int)) || oneB c k z) = M := ⟨_, rfl⟩
          have HM2 : Hid (unitS s c = M) := HU.out.trans hM
          rw [hM] at hx
          clear hM
          have HX : Hid (RArg w4 x M) := hx
          obtain ⟨ax, cx, rfl, _, _⟩ := hx
          have hB5 : Below w.heap.size w w4 := HB4.out.trans (hb4.mono HB4.out.size)
          clear hb4
          go_wp2
          go_ret
          rw [HM2.out]
          exact ⟨_, rfl, HX.out, hB5⟩
      · have HU : Hid (unitS s c = s) := unit_many s c HF.out t HM.out HLV.out HO.out
        go_wp2
        go_ret
        rw [HU.out]
        exact ⟨_, rfl, HVA.out _ HB2.out, HB2.out⟩
  · have HU : Hid (unitS s c = s) := by show _ = _; unfold unitS; rw [HF.out, if_pos rfl]
    go_wp2
    go_ret
    rw [HU.out]
    exact ⟨_, rfl, HVA.out _ (nb2 _ _ _), nb2 _ _ _⟩
end Go.Proofs.YtggkbhafbhhhhadGreat
