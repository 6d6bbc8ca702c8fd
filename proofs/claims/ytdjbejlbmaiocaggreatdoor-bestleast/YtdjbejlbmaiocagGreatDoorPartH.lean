/-
  PART 8 of what the proof leans on (FolC, FolI, FolJ, FenS, SekB, SekC, SekA).
-/
import Derived.Test.YtdjbejlbmaiocagGreatDoorPartG
import Derived.Deep.RegionLaw
import Derived.Maps.AppendAt
import Derived.Maps.OwnSet
import Derived.WalkKit
/-
  WALKS: package follow: Left, Least.
-/
namespace Go.Proofs.YtdjbejlbmaiocagGreatDoor
open Go.RowKit

set_option maxHeartbeats 400000 in
theorem leftnone_any (x y z : Value) (w : World) : Calls Tryz.prog 192 #[x, y, z] w fun e w' => e = .returned (.tuple #[]) ∧ w' = w := by
  go_enter Tryz.func192, Tryz.ntmps192
  go_wp2
  go_end0
  exact ⟨rfl, rfl⟩
theorem enters_leftnone (args : Array Value) (w' : World) : Sem.run Tryz.prog (callFunc 192 args) w' = .ok (.enter 192 args) w' := by
  simp [callFunc, go_sem, Tryz.func192, Tryz.f192]
theorem teller_none (vs : List MVar) (pt : List (List Nat)) (W : World) : Teller 192 #[] vs pt (fun _ w => Below W.heap.size W w) :=
  ⟨enters_leftnone, fun _ _ _ h hb => h.trans (hb.mono h.size), fun _ _ _ _ w h _ _ _ _ => (leftnone_any _ _ _ w).mono fun _ _ ⟨h1, h2⟩ => ⟨h1, by rw [h2]; exact h⟩⟩

set_option maxHeartbeats 800000 in
set_option maxRecDepth 100000 in
theorem rleft_any (vs : List MVar) (hva : VarsAll vs) (hn1 : 1 ≤ vs.length) (cs : List Nat) (pt : List (List Nat)) (cl : Cla) (r : Nat) (sv pv cv u : Value) (w : World) (hR : RulesAt w r sv pv cv vs pt cs) (hu : LArg w u cl) :
    Calls Tryz.prog 132 #[.pointer (some ⟨r, 0, none⟩), u] w fun e w' => e = .returned (.int .u64 ((narrowP vs cs pt (heldP vs cl) : Nat) : Int)) ∧ Below w.heap.size w w' := by
  have HR : Hid (RulesAt w r sv pv cv vs pt cs) := hR
  have HU : Hid (LArg w u cl) := hu
  have HVO : Hid (VarsAll vs) := hva
  have H1 : Hid (1 ≤ vs.length) := hn1
  have g0 := hR.c0
  obtain ⟨h, hh⟩ : ∃ h, heldP vs cl = h := ⟨_, rfl⟩
  have HH : Hid (heldP vs cl = h) := hh
  have HH36 : Hid (h < 2 ^ 36) := by rw [← hh]; exact of_lt vs hva.1 _
  rw [hh]
  obtain ⟨a, c, rfl, _, _⟩ := hR.hv
  obtain ⟨a2, c2, rfl, _, _⟩ := hu
  clear hR hva hn1 hh
  go_enter Tryz.func132, Tryz.ntmps132
  go_wp2_with fail
  refine (held_any vs HVO.out cl _ _ _ HR.out.hv HU.out).mono ?_
  rintro e w1 ⟨rfl, hb1⟩
  rw [HH.out]
  have HB1 : Hid (Below w.heap.size w w1) := hb1
  clear hb1 g0
  go_wp2_with fail
  refine (narrow_any vs HVO.out H1.out cs pt h HH36.out r _ pv cv _ #[] _ (teller_none vs pt w) (fun T Y hY => RulesAt.below hY HR.out) _ HB1.out).mono ?_
  rintro e w2 ⟨rfl, hb2⟩
  have HB2 : Hid (Below w.heap.size w w2) := hb2
  clear hb2
  go_wp2
  go_ret
  exact ⟨rfl, HB2.out⟩

set_option maxHeartbeats 800000 in
set_option maxRecDepth 100000 in
theorem nothing_any (vs : List MVar) (hva : VarsAll vs) (hn1 : 1 ≤ vs.length) (cs : List Nat) (pt : List (List Nat)) (cl : Cla) (r bx : Nat) (sv pv cv u : Value) (w : World) (hR : RulesAt w r sv pv cv vs pt cs) (hu : LArg w u cl) (hx : w.cell? ⟨bx, 0, none⟩ = some (.pointer (some ⟨r, 0, none⟩))) :
    Calls Tryz.prog 251 #[u, .pointer (some ⟨bx, 0, none⟩)] w fun e w' => e = .returned (.bool (nothingP vs cs pt cl)) ∧ Below w.heap.size w w' := by
  have HR : Hid (RulesAt w r sv pv cv vs pt cs) := hR
  have HU : Hid (LArg w u cl) := hu
  have HVO : Hid (VarsAll vs) := hva
  have H1 : Hid (1 ≤ vs.length) := hn1
  obtain ⟨B, hB⟩ : ∃ B, nothingP vs cs pt cl = B := ⟨_, rfl⟩
  obtain ⟨N, hN⟩ : ∃ N : Nat, narrowP vs cs pt (heldP vs cl) = N := ⟨_, rfl⟩
  have HN : Hid (narrowP vs cs pt (heldP vs cl) = N) := hN
  have HB : Hid (B = ((N : Int) == 0)) := by
    show _ = _
    rw [← hB]; unfold nothingP; rw [hN]
    by_cases h0 : N = 0
    · rw [h0]; rfl
    · have h1 : ((N : Int) == 0) = false := by simpa using h0
      rw [h1]; simpa using h0
  rw [hB]
  obtain ⟨a2, c2, rfl, _, _⟩ := hu
  clear hR hva hn1 hB hN
  go_enter Tryz.func251, Tryz.ntmps251
  go_wp2_with fail
  refine (rleft_any vs HVO.out H1.out cs pt cl r sv pv cv _ _ HR.out HU.out).mono ?_
  rintro e w1 ⟨rfl, hb1⟩
  rw [HN.out]
  have HB1 : Hid (Below w.heap.size w w1) := hb1
  clear hb1 hx
  go_wp2
  go_ret
  exact ⟨ret_bool HB.out.symm, HB1.out⟩
theorem enters_nothing (args : Array Value) (w' : World) : Sem.run Tryz.prog (callFunc 251 args) w' = .ok (.enter 251 args) w' := by
  simp [callFunc, go_sem, Tryz.func251, Tryz.f251]
/-- What Least answers. -/
def leastA (vs : List MVar) (cs : List Nat) (pt : List (List Nat)) (c : Cla) : Cla × Bool := if nothingP vs cs pt c then (leastC vs cs pt c, true) else ([], false)

set_option maxHeartbeats 800000 in
set_option maxRecDepth 100000 in
theorem rleast_any (vs : List MVar) (hva : VarsAll vs) (hn1 : 1 ≤ vs.length) (cs : List Nat) (pt : List (List Nat)) (cl : Cla) (hcl : cl.length ≤ 900) (r : Nat) (sv pv cv u : Value) (w : World) (hR : RulesAt w r sv pv cv vs pt cs) (hu : LArg w u cl) :
    Calls Tryz.prog 193 #[.pointer (some ⟨r, 0, none⟩), u] w fun e w' => ∃ x, e = .returned (.tuple #[x, .bool (leastA vs cs pt cl).2]) ∧ LOwn w.heap.size w' x (leastA vs cs pt cl).1 ∧ Below w.heap.size w w' := by
  have HR : Hid (∀ Y, Below w.heap.size w Y → RulesAt Y r sv pv cv vs pt cs) := fun Y hY => RulesAt.below hY hR
  have HU : Hid (∀ Y, Below w.heap.size w Y → LArg Y u cl) := fun Y hY => LArg.below hY hu
  have HVO : Hid (VarsAll vs) := hva
  have H1 : Hid (1 ≤ vs.length) := hn1
  have HCL : Hid (cl.length ≤ 900) := hcl
  obtain ⟨R, hRR⟩ : ∃ R, leastA vs cs pt cl = R := ⟨_, rfl⟩
  obtain ⟨B, hB⟩ : ∃ B, nothingP vs cs pt cl = B := ⟨_, rfl⟩
  have HE : Hid (R = if B then (leastC vs cs pt cl, true) else ([], false)) := by show _ = _; rw [← hRR, ← hB]; rfl
  have HBE : Hid (nothingP vs cs pt cl = B) := hB
  rw [hRR]
  obtain ⟨a2, c2, rfl, _, _⟩ := hu
  have HX : Hid (∀ Y, Below (w.alloc (.cells #[.pointer (some ⟨r, 0, none⟩)] 117)).heap.size (w.alloc (.cells #[.pointer (some ⟨r, 0, none⟩)] 117)) Y → Y.cell? ⟨w.heap.size, 0, none⟩ = some (.pointer (some ⟨r, 0, none⟩))) := fun Y hY => (hY.cell (by simp)).trans (World.cell?_alloc_at _ _ _ 0 (by simp))
  clear hR hva hn1 hB hRR hcl
  go_enter Tryz.func193, Tryz.ntmps193
  go_wp2_with fail
  refine (nothing_any vs HVO.out H1.out cs pt cl r w.heap.size sv pv cv _ _ (HR.out _ (below_alloc _ _)) (HU.out _ (below_alloc _ _)) (HX.out _ (Below.refl _ _))).mono ?_
  rintro e w1 ⟨rfl, hb1⟩
  rw [HBE.out]
  have HBA : Hid (Below (w.alloc (.cells #[.pointer (some ⟨r, 0, none⟩)] 117)).heap.size (w.alloc (.cells #[.pointer (some ⟨r, 0, none⟩)] 117)) w1) := hb1
  have HB1 : Hid (Below w.heap.size w w1) := (below_alloc _ _).trans (hb1.mono (by simp))
  clear hb1
  cases B
  · have HE2 : Hid (R = ([], false)) := HE.out
    go_wp2
    go_ret2
    exact ⟨_, by rw [HE2.out]; rfl, by rw [HE2.out]; exact World.ownsRow_nil _ _ _ _, HB1.out⟩
  · have HE2 : Hid (R = (leastC vs cs pt cl, true)) := HE.out
    go_wp2_with fail
    refine (least_lits 251 #[.pointer (some ⟨w.heap.size, 0, none⟩)] (nothingP vs cs pt) cl HCL.out _ _ (HU.out _ HB1.out) ⟨enters_nothing, fun c v Y hc hY hv => ?_⟩).mono ?_
    · have hYA := HBA.out.trans (hY.mono HBA.out.size)
      have hYW := HB1.out.trans (hY.mono HB1.out.size)
      exact nothing_any vs HVO.out H1.out cs pt c r w.heap.size sv pv cv _ _ (HR.out _ hYW) hv (HX.out _ hYA)
    rintro e w2 ⟨x, rfl, hx, hb2⟩
    have HO : Hid (LOwn w.heap.size w2 x (leastC vs cs pt cl)) := own_lower HB1.out.size hx
    have HB2 : Hid (Below w.heap.size w w2) := HB1.out.trans (hb2.mono HB1.out.size)
    obtain ⟨ax, cx, rfl⟩ := own_form (show w2.ownsRow _ _ _ _ _ _ from hx)
    clear hx hb2
    go_wp2
    go_ret2
    exact ⟨_, by rw [HE2.out]; rfl, by rw [HE2.out]; exact HO.out, HB2.out⟩
end Go.Proofs.YtdjbejlbmaiocagGreatDoor
/-
  WALKS: package follow: Steps.
-/
namespace Go.Proofs.YtdjbejlbmaiocagGreatDoor
open Go.RowKit

theorem PArg.lt36 {w : World} {v : Value} {l : List Nat} (h : PArg w v l) : ∀ z ∈ l, z < 2 ^ 36 := by
  intro z hz
  obtain ⟨a, c, _, _, hr⟩ := h
  obtain ⟨i, hi⟩ := List.mem_iff_getElem?.1 hz
  exact (hr i z hi).1
set_option maxHeartbeats 3200000 in
set_option maxRecDepth 100000 in
theorem senough_any (vs : List MVar) (hva : VarsAll vs) (hn1 : 1 ≤ vs.length) (pt : List (List Nat)) (cs : List Nat) (hcs : cs.length ≤ 100000) (h : Nat) (hh : h < 2 ^ 36) (r : Nat) (sv pv cv : Value) (c : List RV) (hcl : c.length ≤ 5000) (hc36 : ∀ x ∈ c, x.1.2 < 2 ^ 36) (hsl : ∀ x ∈ c, IsSl x) (v : Value) (b1 bh : Nat) (w : World) (hR : RulesAt w r sv pv cv vs pt cs) (hv : RvArg w v c)
    (h1 : w.cell? ⟨b1, 0, none⟩ = some (.pointer (some ⟨r, 0, none⟩))) (h2 : w.cell? ⟨bh, 0, none⟩ = some (.int .u64 h)) (hl1 : b1 < w.heap.size) (hl2 : bh < w.heap.size) :
    Calls Tryz.prog 253 #[v, .pointer (some ⟨b1, 0, none⟩), .pointer (some ⟨bh, 0, none⟩)] w fun e w' => e = .returned (.bool (enoughP vs cs h (c.map (·.1)))) ∧ Below w.heap.size w w' := by
  obtain ⟨i0, hi0, hz0, hz1, hz2⟩ := info_parts Tryz.infoPart
  have HR : Hid (∀ Y, Below w.heap.size w Y → RulesAt Y r sv pv cv vs pt cs) := fun Y hY => RulesAt.below hY hR
  have HV : Hid (∀ Y, Below w.heap.size w Y → RvArg Y v c) := fun Y hY => RvArg.below hY hv
  have HVO : Hid (VarsAll vs) := hva
  have H1 : Hid (1 ≤ vs.length) := hn1
  have HH : Hid (h < 2 ^ 36) := hh
  have HCS : Hid (cs.length ≤ 100000) := hcs
  have HC36 : Hid (∀ x ∈ c, x.1.2 < 2 ^ 36) := hc36
  have HCS36 : Hid (∀ z ∈ cs, z < 2 ^ 36) := PArg.lt36 hR.hc
  have HSL : Hid (∀ x ∈ c, IsSl x) := hsl
  have r2 := hR.c2
  have rl := hR.lt
  have r0' := hR.c0
  have HK1 : Hid (∀ Y, Below w.heap.size w Y → Y.cell? ⟨b1, 0, none⟩ = some (.pointer (some ⟨r, 0, none⟩)) ∧ Y.cell? ⟨bh, 0, none⟩ = some (.int .u64 h) ∧ Y.cell? ⟨r, 0, none⟩ = some sv ∧ b1 < Y.heap.size ∧ bh < Y.heap.size ∧ r < Y.heap.size) := fun Y hY =>
    ⟨(hY.cell (p := ⟨b1, 0, none⟩) hl1).trans h1, (hY.cell (p := ⟨bh, 0, none⟩) hl2).trans h2, (hY.cell (p := ⟨r, 0, none⟩) rl).trans r0', Nat.lt_of_lt_of_le hl1 hY.size, Nat.lt_of_lt_of_le hl2 hY.size, Nat.lt_of_lt_of_le rl hY.size⟩
  obtain ⟨B, hB⟩ : ∃ B, enoughP vs cs h (c.map (·.1)) = B := ⟨_, rfl⟩
  have HB : Hid (B = failsP vs (cs ++ c.map (·.1.2)) h) := by show _ = _; rw [← hB]; unfold enoughP; rw [List.map_map]; rfl
  rw [hB]
  obtain ⟨a1, c1, rfl, _, _⟩ := hR.hv
  obtain ⟨a2, c2, rfl, _, _⟩ := hR.hc
  obtain ⟨a3, c3, he3⟩ := rv_form hv
  subst he3
  clear hR hv hva hn1 hh hB hc36 hsl r0'
  go_enter Tryz.func253, Tryz.ntmps253
  go_wp2_with fail
  refine (clone_parts cs (by have := HCS.out; omega) _ _ (HR.out _ (Below.refl _ _)).hc).mono ?_
  rintro e w1 ⟨x, rfl, hx, hb1⟩
  have HX : Hid (w1.ownsRow w.heap.size 183 1 x cs.length (u64s cs)) := hx
  have HB1 : Hid (Below w.heap.size w w1) := hb1
  obtain ⟨ax, cx, rfl⟩ := own_form hx
  clear hx hb1 r2 rl h1 h2
  go_wp2_with fail
  go_loopw [5, 15] (fun o i wr => ∃ (k : Nat) (done : List Nat), k ≤ c.length ∧ i = .int .i64 k ∧ wr.ownsRow w.heap.size 183 1 o done.length (u64s done) ∧ Hid (done = cs ++ (c.take k).map (·.1.2)) ∧ Below w.heap.size w wr) (fun _ i _ => c.length - (intOf i).toNat)
  case atStart => exact ⟨0, cs, by omega, rfl, HX.out, by show _ = _; simp, HB1.out⟩
  case round =>
    obtain ⟨k, done, hk, rfl, hown, hdn, hbw⟩ := hrel
    have HOW : Hid (wr.ownsRow w.heap.size 183 1 u5 done.length (u64s done)) := hown
    have HBW : Hid (Below w.heap.size w wr) := hbw
    obtain ⟨ao, co, rfl⟩ := own_form hown
    have hdl : done.length ≤ 105000 := by rw [hdn.out, List.length_append, List.length_map, List.length_take]; have := HCS.out; omega
    clear hown hbw
    by_cases hlt : k < c.length
    · obtain ⟨t, ht⟩ : ∃ t, c[k]? = some t := ⟨c[k], by simp [hlt]⟩
      obtain ⟨a4, n4, c4, b4, o4, he4, hn4, hc41, hc42, ha4, hb4, q0, q1, q2, q3⟩ := reason_cells (HV.out _ HBW.out) k t ht
      injection he4 with he4 he5 he6
      rw [ha4] at he4
      subst he4
      obtain ⟨sa, ns, sc, hse⟩ := HSL.out t (List.mem_of_getElem? ht)
      rw [hse] at q2
      have HNX : Hid (done ++ [t.1.2] = cs ++ (c.take (k + 1)).map (·.1.2)) := by
        show _ = _
        rw [hdn.out, List.take_add_one, ht, List.map_append, ← List.append_assoc]; rfl
      have hcc : c.length ≤ c3 := by omega
      unfold maxLen at hc42
      have hcm : c3 ≤ 2 ^ 63 - 1 := by omega
      clear he5 he6 hc41 hc42 hn4 hse ha4 ht hdn
      obtain ⟨z, hz⟩ : ∃ z, t.1.2 = z := ⟨_, rfl⟩
      rw [hz] at q3 HNX
      have hbs := HBW.out.size
      have HBX : Hid (Below w.heap.size w (wr.alloc (.cells #[.int .i64 t.1.1.kind, .int .i64 t.1.1.con, .slice sa ns sc, .int .u64 (z : Int)] 287))) := HBW.out.alloc hbs _
      have HO1 : Hid ((wr.alloc (.cells #[.int .i64 t.1.1.kind, .int .i64 t.1.1.con, .slice sa ns sc, .int .u64 (z : Int)] 287)).ownsRow w.heap.size 183 1 (.slice ao done.length co) done.length (u64s done)) := HOW.out.alloc _
      clear hz
      go_upto_region 5 with (fail)
      obtain ⟨V, hV⟩ : ∃ V, wr.alloc (.cells #[.int .i64 t.1.1.kind, .int .i64 t.1.1.con, .slice sa ns sc, .int .u64 (z : Int)] 287) = V := ⟨_, rfl⟩
      have k3 : (wr.alloc (.cells #[.int .i64 t.1.1.kind, .int .i64 t.1.1.con, .slice sa ns sc, .int .u64 (z : Int)] 287)).cell? ⟨wr.heap.size, 3, none⟩ = some (.int .u64 (z : Int)) := World.cell?_alloc_at _ _ _ 3 (by simp)
      rw [hV] at HBX HO1 k3 ⊢
      clear hV q0 q1 q2 q3
      have hvs := HBX.out.size
      go_wp2_with (at_builtin; refine wpList_append_own _ rfl _ _ 180 rfl w.heap.size 183 i0 (.int .u64 0) 1 8 Tryz.underPart hi0 hz0 hz1 hz2 rfl (by decide) _ _ _ rfl (HO1.out.alloc _) ⟨V.heap.size, 0, none⟩ 1 1 [.int .u64 (z : Int)] rfl rfl (partD_laid V z) (by intro u hu; simp at hu; subst hu; rfl) ?c1 ?c2 ?c3 ?_)
      case c1 => unfold maxLen; omega
      case c2 => omega
      case c3 => simp; omega
      intro v6 w6 hown6 hg6 _
      have HO6 : Hid (w6.ownsRow w.heap.size 183 1 v6 (done ++ [z]).length (u64s (done ++ [z]))) := by
        show World.ownsRow _ _ _ _ _ _ _
        unfold u64s at *
        rw [List.length_append, List.map_append]; exact hown6
      have HB6 : Hid (Below w.heap.size w w6) := (HBX.out.alloc hvs _).grown hg6 (by simp; omega) (fun g hg => (HO1.out.lt g hg).1)
      clear hown6 hg6 k3
      go_wp2
      go_roundw
      case rel => exact ⟨k + 1, done ++ [z], by omega, by go_num, HO6.out, HNX, HB6.out⟩
      case measure => simp [intOf]; omega
    · have HFD : Hid (done = cs ++ c.map (·.1.2)) := by have h1 := hdn.out; rw [List.take_of_length_le (by omega)] at h1; exact h1
      have HPA : Hid (PArg wr (.slice ao done.length co) done) := own_parts HOW.out (by
        rw [HFD.out]
        intro z hz
        rcases List.mem_append.1 hz with h | h
        · exact HCS36.out z h
        · obtain ⟨x, hx, rfl⟩ := List.mem_map.1 h
          exact HC36.out x hx)
      obtain ⟨k1, k2, k3, m1, m2, m3⟩ := HK1.out _ HBW.out
      have HBF : Hid (B = failsP vs done h) := by show _ = _; rw [HB.out, HFD.out]
      have HFA : Hid (∀ Y, Below wr.heap.size wr Y → Calls Tryz.prog 130 #[.slice a1 (List.length vs) c1, .slice ao done.length co, .int .u64 (h : Int)] Y fun e w' => e = .returned (.bool B) ∧ Below Y.heap.size Y w') := fun Y hY => by
        rw [HBF.out]
        have hRY := HR.out Y (HBW.out.trans (hY.mono HBW.out.size))
        exact fails_any vs HVO.out H1.out done h HH.out _ _ Y hRY.hv (PArg.below hY HPA.out) hRY.tab
      clear hdn
      go_upto_region 7 with (fail)
      go_region_held3 (fun w' => Below wr.heap.size wr w' ∧ w'.cell? ⟨b1, 0, none⟩ = some (.pointer (some ⟨r, 0, none⟩)) ∧ w'.cell? ⟨bh, 0, none⟩ = some (.int .u64 h) ∧ w'.cell? ⟨r, 0, none⟩ = some (.slice a1 (List.length vs) c1))
        ((refine (fun (hB : Below wr.heap.size wr _) => ⟨hB, (hB.cell (p := ⟨b1, 0, none⟩) m1).trans k1, (hB.cell (p := ⟨bh, 0, none⟩) m2).trans k2, (hB.cell (p := ⟨r, 0, none⟩) m3).trans k3⟩ : Below wr.heap.size wr _ → _) ?_; first | exact (Below.refl _ _).drew | exact fen_call (by assumption) hbq))
        (first
          | (go_at_call 130; refine (HFA.out _ (show Below wr.heap.size wr _ ∧ _ by assumption).1).mono ?_; rintro e w3 ⟨rfl, hbq⟩; have hB3 := fen_call (by assumption) hbq))
      have HB3 : Hid (Below w.heap.size w w3) := HBW.out.trans (hB3.mono HBW.out.size)
      clear hbq hB3 k1 k2 k3
      go_wp2
      go_ret
      exact ⟨rfl, HB3.out⟩
theorem enters_enough (args : Array Value) (w' : World) : Sem.run Tryz.prog (callFunc 253 args) w' = .ok (.enter 253 args) w' := by
  simp [callFunc, go_sem, Tryz.func253, Tryz.f253]
end Go.Proofs.YtdjbejlbmaiocagGreatDoor
/-
  MEMORY: steps. WALK: package follow: Steps.
-/
namespace Go.Proofs.YtdjbejlbmaiocagGreatDoor
open Go.RowKit

theorem Tryz.infoStepF : (Tryz.prog.info? 93).map (fun i => (i.zero, i.size, i.bytes)) = some (some (.agg #[.int .i64 0, .int .i64 0, .slice none 0 0]), 3, 40) := by kernel_rfl
theorem Tryz.underStepsF : Tryz.prog.underlying 27 = some (.slice 93) := by kernel_rfl
/-- A step, and where its clause lies. -/
abbrev SV := MStep × Value
def stepCs (x : SV) : List Value := [.int .i64 x.1.kind, .int .i64 x.1.con, x.2]
/-- Steps in a row of one's own, each clause in one of its own. -/
def StOwn (base : Nat) (w : World) (v : Value) (L : List SV) : Prop := w.ownsRow base 93 3 v L.length (L.map stepCs).flatten ∧ ∀ x ∈ L, LOwn base w x.2 x.1.cla
theorem StOwn.below {base : Nat} {w w' : World} {v : Value} {L : List SV} (h : StOwn base w v L) (hb : Below w.heap.size w w') : StOwn base w' v L := ⟨own_below h.1 hb, fun x hx => own_below (h.2 x hx) hb⟩
theorem StOwn.mono {base base' : Nat} {w : World} {v : Value} {L : List SV} (h : StOwn base w v L) (hb : base' ≤ base) : StOwn base' w v L := ⟨World.ownsRow.mono h.1 hb, fun x hx => own_lower hb (h.2 x hx)⟩
theorem step_laid (w : World) (x : SV) : ∀ (j : Nat) (u : Value), (stepCs x)[j]? = some u → (w.alloc (.cells #[.int .i64 x.1.kind, .int .i64 x.1.con, x.2] 93)).cell? ((⟨w.heap.size, 0, none⟩ : Addr).add j) = some u := by
  intro j u hj
  match j, hj with
  | 0, hj => simp [stepCs] at hj; subst hj; simp [Addr.add]
  | 1, hj => simp [stepCs] at hj; subst hj; simp [Addr.add]
  | 2, hj => simp [stepCs] at hj; subst hj; simp [Addr.add]
theorem StOwn.push {base n : Nat} {w w' : World} {v v' : Value} {L : List SV} {x : SV} (h : StOwn base w v L) (hx : LOwn base w x.2 x.1.cla) (hg : w.grownBy w' v.ownBlock) (hn : n = L.length + 1) (ho : w'.ownsRow base 93 3 v' n ((L.map stepCs).flatten ++ stepCs x)) : StOwn base w' v' (L ++ [x]) := by
  refine ⟨?_, fun y hy => ?_⟩
  · rw [List.length_append, List.length_singleton, ← hn, List.map_append, List.flatten_append]
    simpa using ho
  · rcases List.mem_append.1 hy with h3 | h3
    · exact own_grown (h.2 y h3) hg h.1 (by decide)
    · rw [List.mem_singleton.1 h3]; exact own_grown hx hg h.1 (by decide)
theorem least_map {α β : Type} (f : α → β) (e : List β → Bool) : ∀ (k : Nat) (l : List α), (leastL (fun c => e (c.map f)) k l).map f = leastL e k (l.map f)
  | 0, l => rfl
  | k + 1, l => by
    rw [least_step, least_step, least_map f e k, erase_map]
    congr 1
    split <;> rfl

set_option maxHeartbeats 6400000 in
set_option maxRecDepth 100000 in
theorem rsteps_any (vs : List MVar) (hva : VarsAll vs) (hn1 : 1 ≤ vs.length) (pt : List (List Nat)) (cs : List Nat) (hcs : cs.length ≤ 100000) (cl : Cla) (hcl : cl.length ≤ 900) (r : Nat) (sv pv cv u : Value) (w : World) (hR : RulesAt w r sv pv cv vs pt cs) (hu : LArg w u cl) :
    Calls Tryz.prog 195 #[.pointer (some ⟨r, 0, none⟩), u] w fun e w' => ∃ v L, e = .returned v ∧ L.map (·.1) = stepsA vs cs pt cl ∧ StOwn w.heap.size w' v L ∧ L.length ≤ 1500 ∧ Below w.heap.size w w' := by
  obtain ⟨i0, hi0, hz0, hz1, hz2⟩ := info_parts Tryz.infoStepF
  have HR : Hid (∀ Y, Below w.heap.size w Y → RulesAt Y r sv pv cv vs pt cs) := fun Y hY => RulesAt.below hY hR
  have HU : Hid (∀ Y, Below w.heap.size w Y → LArg Y u cl) := fun Y hY => LArg.below hY hu
  have HVO : Hid (VarsAll vs) := hva
  have H1 : Hid (1 ≤ vs.length) := hn1
  have HCS : Hid (cs.length ≤ 100000) := hcs
  have HCL : Hid (cl.length ≤ 900) := hcl
  obtain ⟨h, hh⟩ : ∃ h, heldP vs cl = h := ⟨_, rfl⟩
  have HH : Hid (heldP vs cl = h) := hh
  have HH36 : Hid (h < 2 ^ 36) := by rw [← hh]; exact of_lt vs hva.1 _
  obtain ⟨ST, hST⟩ : ∃ ST, stepsA vs cs pt cl = ST := ⟨_, rfl⟩
  have HST : Hid (ST = (leastL (enoughP vs cs h) (reasonsP vs cs pt h).length (reasonsP vs cs pt h)).map (·.1) ++ [⟨2, 0, cl⟩]) := by show _ = _; rw [← hST, ← hh]; rfl
  rw [hST]
  have r0 := hR.c0
  have rl := hR.lt
  obtain ⟨a1, c1, rfl, _, _⟩ := hR.hv
  obtain ⟨a2, c2, rfl, _, _⟩ := hu
  clear hR hva hn1 hcs hcl hh hST
  go_enter Tryz.func195, Tryz.ntmps195
  go_wp2_with fail
  refine (held_any vs HVO.out cl _ _ _ (HR.out _ (below_alloc _ _)).hv (HU.out _ (below_alloc _ _))).mono ?_
  rintro e w1 ⟨rfl, hb1⟩
  rw [HH.out]
  have HB1 : Hid (Below w.heap.size w w1) := (below_alloc _ _).trans (hb1.mono (by simp))
  have HP1 : Hid (w1.cell? ⟨w.heap.size, 0, none⟩ = some (.pointer (some ⟨r, 0, none⟩))) := (hb1.cell (by simp)).trans (World.cell?_alloc_at _ _ _ 0 (by simp))
  have HS1 : Hid (w.heap.size < w1.heap.size) := by have := hb1.size; simp at this; show _ < _; omega
  clear hb1 r0 rl
  have k1 : (w1.alloc (.cells #[.int .u64 (h : Int)] 183)).cell? ⟨w.heap.size, 0, none⟩ = some (.pointer (some ⟨r, 0, none⟩)) := ((below_alloc w1 _).cell (p := ⟨w.heap.size, 0, none⟩) HS1.out).trans HP1.out
  have k2 : (w1.alloc (.cells #[.int .u64 (h : Int)] 183)).cell? ⟨w1.heap.size, 0, none⟩ = some (.int .u64 (h : Int)) := World.cell?_alloc_at _ _ _ 0 (by simp)
  have HBV : Hid (Below w.heap.size w (w1.alloc (.cells #[.int .u64 (h : Int)] 183))) := HB1.out.alloc HB1.out.size _
  have HLV : Hid (w1.heap.size < (w1.alloc (.cells #[.int .u64 (h : Int)] 183)).heap.size) := by show _ < _; simp
  obtain ⟨G, hG⟩ : ∃ G, w1.heap.size = G := ⟨_, rfl⟩
  obtain ⟨V, hV⟩ : ∃ V, w1.alloc (.cells #[.int .u64 (h : Int)] 183) = V := ⟨_, rfl⟩
  go_upto_region 4 with (fail)
  rw [hV] at HBV HLV
  rw [hG] at HLV HS1
  rw [hG, hV] at k2
  rw [hV] at k1
  have HK : Hid (∀ Y, Below V.heap.size V Y → Y.cell? ⟨w.heap.size, 0, none⟩ = some (.pointer (some ⟨r, 0, none⟩)) ∧ Y.cell? ⟨G, 0, none⟩ = some (.int .u64 (h : Int)) ∧ w.heap.size < Y.heap.size ∧ G < Y.heap.size) := fun Y hY => by
    have h1 := HS1.out
    have h2 := HLV.out
    have h3 := hY.size
    exact ⟨(hY.cell (p := ⟨w.heap.size, 0, none⟩) (by show w.heap.size < V.heap.size; omega)).trans k1, (hY.cell (p := ⟨G, 0, none⟩) h2).trans k2, by omega, by omega⟩
  clear hG hV HP1
  go_wp2_with fail
  refine (reasons_any vs HVO.out H1.out pt cs h HH36.out r _ pv cv _ (HR.out _ HBV.out)).mono ?_
  rintro e w2 ⟨v2, L, rfl, hmp, hro, hcl2, hL14, hb2⟩
  have HRO : Hid (ROwn w.heap.size w2 v2 L) := rown_lower HBV.out.size hro
  have HCL2 : Hid (∀ x ∈ L, LOwn w.heap.size w2 x.2 x.1.1.cla) := fun x hx => own_lower HBV.out.size (hcl2 x hx)
  have HMP : Hid (L.map (·.1) = reasonsP vs cs pt h) := hmp
  have HB2 : Hid (Below V.heap.size V w2) := hb2
  have HBW2 : Hid (Below w.heap.size w w2) := HBV.out.trans (hb2.mono HBV.out.size)
  have HSL : Hid (∀ x ∈ L, IsSl x) := fun x hx => by
    obtain ⟨a, c, he⟩ := own_form (show w2.ownsRow _ _ _ _ _ _ from hcl2 x hx)
    exact ⟨a, _, c, he⟩
  have HX36 : Hid (∀ x ∈ L, x.1.2 < 2 ^ 36) := fun x hx => by
    have h1 : x.1 ∈ reasonsP vs cs pt h := by rw [← hmp]; exact List.mem_map.2 ⟨x, hx, rfl⟩
    obtain ⟨t, _, ht⟩ := List.mem_flatMap.1 h1
    unfold reasonsT at ht
    split at ht
    · rw [List.mem_singleton.1 ht]; exact of_lt vs HVO.out.1 _
    · obtain ⟨l, _, hl⟩ := List.mem_map.1 ht
      rw [← hl]; exact of_lt vs HVO.out.1 _
  obtain ⟨ao, co, rfl⟩ := own_form (show w2.ownsRow _ _ _ _ _ _ from hro)
  clear hmp hro hcl2 hb2 k1 k2
  go_wp2_with fail
  refine (least_reasons 253 #[.pointer (some ⟨w.heap.size, 0, none⟩), .pointer (some ⟨G, 0, none⟩)] (fun c => enoughP vs cs h (c.map (·.1))) L HSL.out (by omega) _ _ HRO.out.arg ⟨enters_enough, fun c v Y hc hcm hY hv => ?_⟩).mono ?_
  · have hYV := HB2.out.trans (hY.mono HB2.out.size)
    have hYW := HBV.out.trans (hYV.mono HBV.out.size)
    obtain ⟨q1, q2, q3, q4⟩ := HK.out Y hYV
    exact senough_any vs HVO.out H1.out pt cs HCS.out h HH36.out r _ pv cv c (by omega) (fun x hx => HX36.out x (hcm x hx)) (fun x hx => HSL.out x (hcm x hx)) v _ _ Y (HR.out Y hYW) hv q1 q2 q3 q4
  rintro e w3 ⟨v3, rfl, hro3, hb3⟩
  obtain ⟨R, hRe⟩ : ∃ R, leastL (fun c => enoughP vs cs h (c.map (·.1))) L.length L = R := ⟨_, rfl⟩
  have HRM : Hid (R.map (·.1) = leastL (enoughP vs cs h) (reasonsP vs cs pt h).length (reasonsP vs cs pt h)) := by show _ = _; rw [← hRe, least_map (fun x : RV => x.1), ← HMP.out, List.length_map]
  have HRS : Hid (∀ x ∈ R, x ∈ L) := fun x hx => least_mem _ x _ _ (by rw [hRe]; exact hx)
  have hRL : R.length ≤ 1400 := by rw [← hRe]; exact Nat.le_trans (least_len _ _ _) hL14
  rw [hRe] at hro3
  have HRO3 : Hid (ROwn w.heap.size w3 v3 R) := rown_lower HBW2.out.size hro3
  have HB3 : Hid (Below w.heap.size w w3) := HBW2.out.trans (hb3.mono HBW2.out.size)
  have HCL3 : Hid (∀ x ∈ R, LOwn w.heap.size w3 x.2 x.1.1.cla) := fun x hx => own_below (HCL2.out x (HRS.out x hx)) hb3
  obtain ⟨a3, c3, rfl⟩ := own_form (show w3.ownsRow _ _ _ _ _ _ from hro3)
  clear hro3 hb3 hRe
  go_wp2_with fail
  go_loopw [7, 23] (fun o i wr => ∃ k : Nat, k ≤ R.length ∧ i = .int .i64 k ∧ Hid (∃ D : List SV, D.map (·.1) = (R.take k).map (·.1.1) ∧ StOwn w.heap.size wr o D ∧ ROwn w.heap.size wr (.slice a3 R.length c3) R ∧ (∀ x ∈ R, LOwn w.heap.size wr x.2 x.1.1.cla) ∧ Below w.heap.size w wr)) (fun _ i _ => R.length - (intOf i).toNat)
  case atStart => exact ⟨0, by omega, rfl, [], rfl, ⟨World.ownsRow_nil _ _ _ _, fun x hx => by cases hx⟩, HRO3.out, HCL3.out, HB3.out⟩
  case round =>
    obtain ⟨k, hk, rfl, hrest⟩ := hrel
    obtain ⟨D, hD, hso, hrr, hcr, hbw⟩ := hrest.out
    have HD : Hid (D.map (·.1) = (R.take k).map (·.1.1)) := hD
    have HSO : Hid (StOwn w.heap.size wr u7 D) := hso
    have HRR : Hid (ROwn w.heap.size wr (.slice a3 R.length c3) R) := hrr
    have HCR : Hid (∀ x ∈ R, LOwn w.heap.size wr x.2 x.1.1.cla) := hcr
    have HBW : Hid (Below w.heap.size w wr) := hbw
    have hDk : D.length = k := by
      have h1 := congrArg List.length hD
      rw [List.length_map, List.length_map, List.length_take] at h1
      omega
    obtain ⟨ad, cd, hu7⟩ := own_form hso.1
    rw [hDk] at hu7
    subst hu7
    clear hD hso hrr hcr hbw hrest
    by_cases hlt : k < R.length
    · obtain ⟨t, ht⟩ : ∃ t, R[k]? = some t := ⟨R[k], by simp [hlt]⟩
      obtain ⟨a4, n4, c4, b4, o4, he4, hn4, hc41, hc42, ha4, hb4, q0, q1, q2, q3⟩ := reason_cells HRR.out.arg k t ht
      injection he4 with he4 he5 he6
      rw [ha4] at he4
      subst he4
      have htm : t ∈ R := List.mem_of_getElem? ht
      have HTC : Hid (LOwn w.heap.size wr t.2 t.1.1.cla) := HCR.out t htm
      obtain ⟨sa, sc, hse⟩ := own_form (show wr.ownsRow _ _ _ _ _ _ from HTC.out)
      rw [hse] at q2
      have HSE : Hid (t.2 = .slice sa t.1.1.cla.length sc) := hse
      have HNX : Hid ((D ++ [(t.1.1, t.2)]).map (·.1) = (R.take (k + 1)).map (·.1.1)) := by
        show _ = _
        rw [List.map_append, HD.out, List.take_add_one, ht, List.map_append]; rfl
      have hcc : R.length ≤ c3 := by omega
      unfold maxLen at hc42
      have hcm : c3 ≤ 2 ^ 63 - 1 := by omega
      clear he5 he6 hc41 hc42 hn4 hse ha4 ht
      have hbs := HBW.out.size
      obtain ⟨kd, hkd⟩ : ∃ kd, t.1.1.kind = kd := ⟨_, rfl⟩
      obtain ⟨cn, hcn⟩ : ∃ cn, t.1.1.con = cn := ⟨_, rfl⟩
      obtain ⟨hz, hhz⟩ : ∃ hz : Nat, t.1.2 = hz := ⟨_, rfl⟩
      obtain ⟨nl, hnl⟩ : ∃ nl, t.1.1.cla.length = nl := ⟨_, rfl⟩
      rw [hkd] at q0
      rw [hcn] at q1
      rw [hhz] at q3
      rw [hnl] at q2 HSE
      have HSC : Hid (stepCs (t.1.1, t.2) = [.int .i64 kd, .int .i64 cn, .slice sa nl sc]) := by show _ = _; unfold stepCs; rw [HSE.out, hkd, hcn]
      have HSL2 : Hid (∀ V : World, ∀ (j : Nat) (u : Value), ([.int .i64 kd, .int .i64 cn, .slice sa nl sc] : List Value)[j]? = some u → (V.alloc (.cells #[.int .i64 kd, .int .i64 cn, .slice sa nl sc] 93)).cell? ((⟨V.heap.size, 0, none⟩ : Addr).add j) = some u) := fun V => by
        have h1 := step_laid V (⟨kd, cn, []⟩, .slice sa nl sc)
        exact h1
      clear hkd hcn hhz hnl
      have HBX : Hid (Below wr.heap.size wr (wr.alloc (.cells #[.int .i64 kd, .int .i64 cn, .slice sa nl sc, .int .u64 (hz : Int)] 287))) := below_alloc _ _
      go_upto_region 7 with (fail)
      obtain ⟨V, hV⟩ : ∃ V, wr.alloc (.cells #[.int .i64 kd, .int .i64 cn, .slice sa nl sc, .int .u64 (hz : Int)] 287) = V := ⟨_, rfl⟩
      have k0 : (wr.alloc (.cells #[.int .i64 kd, .int .i64 cn, .slice sa nl sc, .int .u64 (hz : Int)] 287)).cell? ⟨wr.heap.size, 0, none⟩ = some (.int .i64 kd) := World.cell?_alloc_at _ _ _ 0 (by simp)
      have k1 : (wr.alloc (.cells #[.int .i64 kd, .int .i64 cn, .slice sa nl sc, .int .u64 (hz : Int)] 287)).cell? ⟨wr.heap.size, 1, none⟩ = some (.int .i64 cn) := World.cell?_alloc_at _ _ _ 1 (by simp)
      have k2 : (wr.alloc (.cells #[.int .i64 kd, .int .i64 cn, .slice sa nl sc, .int .u64 (hz : Int)] 287)).cell? ⟨wr.heap.size, 2, none⟩ = some (.slice sa nl sc) := World.cell?_alloc_at _ _ _ 2 (by simp)
      rw [hV] at HBX k0 k1 k2 ⊢
      clear hV q0 q1 q2 q3
      have hvs := HBX.out.size
      have HBV2 : Hid (Below w.heap.size w V) := HBW.out.trans (HBX.out.mono HBW.out.size)
      have HSV : Hid (StOwn w.heap.size (V.alloc (.cells #[.int .i64 kd, .int .i64 cn, .slice sa nl sc] 93)) (.slice ad k cd) D) := (HSO.out.below HBX.out).below (below_alloc _ _)
      have HOV : Hid ((V.alloc (.cells #[.int .i64 kd, .int .i64 cn, .slice sa nl sc] 93)).ownsRow w.heap.size 93 3 (.slice ad k cd) k (D.map stepCs).flatten) := by have := HSV.out.1; rw [hDk] at this; exact this
      go_wp2_with (at_builtin; refine wpList_append_own _ rfl _ _ 27 rfl w.heap.size 93 i0 (.agg #[.int .i64 0, .int .i64 0, .slice none 0 0]) 3 40 Tryz.underStepsF hi0 hz0 hz1 hz2 rfl (by decide) _ _ _ rfl HOV.out ⟨V.heap.size, 0, none⟩ 1 1 [.int .i64 kd, .int .i64 cn, .slice sa nl sc] rfl rfl (HSL2.out V) (by intro u hu; simp at hu; rcases hu with rfl | rfl | rfl <;> rfl) ?c1 ?c2 ?c3 ?_)
      case c1 => unfold maxLen; omega
      case c2 => omega
      case c3 => simp; omega
      intro v6 w6 hown6 hg6 _
      have HBA : Hid (Below wr.heap.size wr (V.alloc (.cells #[.int .i64 kd, .int .i64 cn, .slice sa nl sc] 93))) := HBX.out.alloc hvs _
      have HS6 : Hid (StOwn w.heap.size w6 v6 (D ++ [(t.1.1, t.2)])) := StOwn.push HSV.out (own_below HTC.out HBA.out) hg6 (by rw [hDk]) (by rw [HSC.out]; exact hown6)
      have HR6 : Hid (ROwn w.heap.size w6 (.slice (some ⟨b4, o4, none⟩) R.length c3) R) := own_grown (own_below HRR.out HBA.out) hg6 HOV.out (by decide)
      have HC6 : Hid (∀ x ∈ R, LOwn w.heap.size w6 x.2 x.1.1.cla) := fun x hx => own_grown (own_below (HCR.out x hx) HBA.out) hg6 HOV.out (by decide)
      have HB6 : Hid (Below w.heap.size w w6) := (HBV2.out.alloc HBV2.out.size _).grown hg6 (by have := HBV2.out.size; simp; omega) (fun g hg => (HOV.out.lt g hg).1)
      obtain ⟨a9, c9, rfl⟩ := own_form hown6
      clear hown6 hg6 k0 k1 k2
      go_wp2
      go_roundw
      case rel => exact ⟨k + 1, by omega, by go_num, D ++ [(t.1.1, t.2)], HNX.out, HS6.out, HR6.out, HC6.out, HB6.out⟩
      case measure => simp [intOf]; omega
    · have HFD : Hid (D.map (·.1) = R.map (·.1.1)) := by have h1 := HD.out; rw [List.take_of_length_le (by omega)] at h1; exact h1
      have HDK : Hid (D.length = k) := hDk
      clear hDk
      go_wp2_with fail
      refine (clone_cla cl HCL.out _ _ (HU.out _ HBW.out)).mono ?_
      rintro e w5 ⟨x, rfl, hx, hb5⟩
      have HX : Hid (LOwn w.heap.size w5 x cl) := own_lower HBW.out.size hx
      have HB5 : Hid (Below w.heap.size w w5) := HBW.out.trans (hb5.mono HBW.out.size)
      have HS5 : Hid (StOwn w.heap.size w5 (.slice ad k cd) D) := HSO.out.below hb5
      obtain ⟨ax, cx, rfl⟩ := own_form (show w5.ownsRow _ _ _ _ _ _ from hx)
      clear hx hb5
      have hs5 := HB5.out.size
      have HSV : Hid (StOwn w.heap.size (w5.alloc (.cells #[.int .i64 2, .int .i64 0, .slice ax cl.length cx] 93)) (.slice ad k cd) D) := HS5.out.below (below_alloc _ _)
      have HOV : Hid ((w5.alloc (.cells #[.int .i64 2, .int .i64 0, .slice ax cl.length cx] 93)).ownsRow w.heap.size 93 3 (.slice ad k cd) k (D.map stepCs).flatten) := by have := HSV.out.1; rw [HDK.out] at this; exact this
      go_wp2_with (at_builtin; refine wpList_append_own _ rfl _ _ 27 rfl w.heap.size 93 i0 (.agg #[.int .i64 0, .int .i64 0, .slice none 0 0]) 3 40 Tryz.underStepsF hi0 hz0 hz1 hz2 rfl (by decide) _ _ _ rfl HOV.out ⟨w5.heap.size, 0, none⟩ 1 1 [.int .i64 2, .int .i64 0, .slice ax cl.length cx] rfl rfl (step_laid w5 (⟨2, 0, cl⟩, .slice ax cl.length cx)) (by intro u hu; simp at hu; rcases hu with rfl | rfl | rfl <;> rfl) ?c1 ?c2 ?c3 ?_)
      case c1 => unfold maxLen; omega
      case c2 => omega
      case c3 => simp; omega
      intro v6 w6 hown6 hg6 _
      have HS6 : Hid (StOwn w.heap.size w6 v6 (D ++ [((⟨2, 0, cl⟩ : MStep), Value.slice ax cl.length cx)])) := StOwn.push HSV.out (own_below HX.out (below_alloc _ _)) hg6 (by rw [HDK.out]) hown6
      have HB6 : Hid (Below w.heap.size w w6) := (HB5.out.alloc hs5 _).grown hg6 (by simp; omega) (fun g hg => (HOV.out.lt g hg).1)
      have HM6 : Hid ((D ++ [((⟨2, 0, cl⟩ : MStep), Value.slice ax cl.length cx)]).map (·.1) = ST) := by
        show _ = _
        rw [HST.out, ← HRM.out, List.map_append, HFD.out, List.map_map]; rfl
      have HL6 : Hid ((D ++ [((⟨2, 0, cl⟩ : MStep), Value.slice ax cl.length cx)]).length ≤ 1500) := by show _ ≤ _; rw [List.length_append, HDK.out]; simp; omega
      obtain ⟨a9, c9, rfl⟩ := own_form hown6
      clear hown6 hg6
      go_wp2
      go_ret
      exact ⟨_, _, rfl, HM6.out, HS6.out, HL6.out, HB6.out⟩
end Go.Proofs.YtdjbejlbmaiocagGreatDoor
/-
  MEMORY: a store whose rows grow in whatever order. WALK: package fence: Store.
-/
namespace Go.Proofs.YtdjbejlbmaiocagGreatDoor
open Go.RowKit

theorem wp_append_own_at {P : Program} (w : World) {o : Oper} {a : Act} {K : Act → World → Prop} {Q : Exit → Act → World → Prop} (s x : Operand) (t : TypeId)
    (ho : o.op = .call { callee := .builtin .append, args := #[s, x], argTypes := #[t, t] })
    (base : Nat) (e : TypeId) (i : TypeInfo) (z : Value) (size bytes : Nat) (ht : P.underlying t = some (.slice e)) (hi : P.info? e = some i) (hz : i.zero = some z)
    (hsize : i.size = size) (hby : i.bytes = bytes) (hzs : z.cells.size = size) (hsz : 0 < size)
    (v : Value) (n : Nat) (xs : List Value) (hs : a.eval s = v) (hown : w.ownsRow base e size v n xs)
    (ad : Addr) (m c : Nat) (news : List Value) (hx : a.eval x = .slice (some ad) m c) (hl : news.length = m * size) (hnews : ∀ j u, news[j]? = some u → w.cell? (ad.add j) = some u) (h1 : ∀ u ∈ news, u.oneCell' = true)
    (h63 : n + m ≤ maxLen) (hbytes : (n + m) * bytes ≤ 140737488355328) (hbase : base ≤ w.heap.size)
    (h : ∀ v' w', w'.ownsRow base e size v' (n + m) (xs ++ news) → w.grownBy w' v.ownBlock → (v'.ownBlock = v.ownBlock ∨ v'.ownBlock = some w.heap.size) → K (a.put o.dst v') w') : o.wp P a w K Q := by
  obtain ⟨v', w', hr, h2, h3, _, h4⟩ := run_append_own_at (P := P) (w := w) base t o.type e i z size bytes ht hi hz hsize hby hzs hsz v n xs hown ad m c news hl hnews h1 h63 hbytes hbase
  unfold Oper.wp execOp
  simp only [ho, resolve, invoke, builtin, Sem.run_bind, Sem.run_pure, Result.andThen_ok, List.map_toArray, List.map_cons, List.map_nil, hs, hx, hr]
  exact h v' w' h2 h3 h4

def GRows (w : World) (B n : Nat) (cells : List Value) (M : Sto) : Prop :=
  w.ownsRow B 26 1 (.slice (some ⟨B, 0, none⟩) n n) n cells ∧ M.length = n ∧
  (∀ (i : Nat) (r : List Int), M[i]? = some r → ∃ x, cells[i]? = some x ∧ w.ownsRow (B + 1) 3 1 x r.length (r.map (Value.int .i64))) ∧
  (∀ (i j : Nat) (x y : Value) (g : Nat), i ≠ j → cells[i]? = some x → cells[j]? = some y → x.ownBlock = some g → y.ownBlock ≠ some g)
theorem GRows.kept {w w' : World} {B n : Nat} {cells : List Value} {M : Sto} (h : GRows w B n cells M) (hb : Below w.heap.size w w') : GRows w' B n cells M := by
  obtain ⟨h1, h0, h2, h3⟩ := h
  refine ⟨own_below h1 hb, h0, fun i r hr => ?_, h3⟩
  obtain ⟨y, hy, hoy⟩ := h2 i r hr
  exact ⟨y, hy, own_below hoy hb⟩
theorem GRows.push {w w3 : World} {B n : Nat} {cells : List Value} {M : Sto} {k : Nat} {r : List Int} {x v3 : Value} {z : Int} (h : GRows w B n cells M) (hM : M[k]? = some r) (hx : cells[k]? = some x)
    (ho : w3.ownsRow (B + 1) 3 1 v3 (r ++ [z]).length ((r ++ [z]).map (Value.int .i64))) (hg : w.grownBy w3 x.ownBlock) (hat : v3.ownBlock = x.ownBlock ∨ v3.ownBlock = some w.heap.size) :
    GRows (w3.setCell ⟨B, k, none⟩ v3) B n (cells.set k v3) (M.set k (r ++ [z])) := by
  obtain ⟨h1, h0, h2, h4⟩ := h
  obtain ⟨y, hy, hoy⟩ := h2 k r hM
  rw [hx] at hy; cases hy
  have hxK : ∀ g, x.ownBlock = some g → B + 1 ≤ g := fun g hg => (hoy.lt g hg).1
  have hB : B < w.heap.size := (h1.lt B rfl).2
  have hne : some B ≠ x.ownBlock := fun h => by have := hxK B h.symm; omega
  have h13 : w3.ownsRow B 26 1 (.slice (some ⟨B, 0, none⟩) n n) n cells := h1.kept hg (Or.inr hne)
  have hlen : cells.length = n := by have := h1.1; omega
  have hkn : k < n := by rw [← h0]; exact (List.getElem?_eq_some_iff.1 hM).1
  have hold : ∀ (j : Nat) (y : Value), j ≠ k → cells[j]? = some y → ∀ g, y.ownBlock = some g → g < w.heap.size := fun j y hj hy g hg => by
    have hjn : j < n := by rw [← hlen]; exact (List.getElem?_eq_some_iff.1 hy).1
    obtain ⟨y', hy', ho'⟩ := h2 j M[j] (by rw [List.getElem?_eq_getElem (by omega)])
    rw [hy] at hy'; cases hy'
    exact (ho'.lt g hg).2
  refine ⟨(h13.stored k v3).1, by simpa using h0, fun i q hq => ?_, fun i j y u g hij hyi hyj hg1 => ?_⟩
  · by_cases hik : i = k
    · subst hik
      rw [List.getElem?_set_self (by omega)] at hq
      cases hq
      refine ⟨v3, by rw [List.getElem?_set_self (by omega)], own_at ho fun g hg2 => Below.heap_setCell _ _ _ _ ?_⟩
      have := (ho.lt g hg2).1
      simp only; omega
    · rw [List.getElem?_set_ne (by omega)] at hq
      obtain ⟨y, hy, hoy2⟩ := h2 i q hq
      refine ⟨y, by rw [List.getElem?_set_ne (by omega)]; exact hy, ?_⟩
      have h23 : w3.ownsRow (B + 1) 3 1 y q.length (q.map (Value.int .i64)) := by
        refine hoy2.kept hg ?_
        cases hyb : y.ownBlock with
        | none => exact Or.inl rfl
        | some g => exact Or.inr fun he => h4 i k y x g hik hy hx hyb he.symm
      refine own_at h23 fun g hg2 => Below.heap_setCell _ _ _ _ ?_
      have := (hoy2.lt g hg2).1
      simp only; omega
  · by_cases hik : i = k
    · subst hik
      rw [List.getElem?_set_self (by omega)] at hyi
      cases hyi
      rw [List.getElem?_set_ne (by omega)] at hyj
      rcases hat with hat | hat
      · rw [hat] at hg1
        exact h4 _ j x u g hij hx hyj hg1
      · rw [hat] at hg1
        intro hu
        have := hold j u (Ne.symm hij) hyj g hu
        have := Option.some.inj hg1
        omega
    · rw [List.getElem?_set_ne (by omega)] at hyi
      by_cases hjk : j = k
      · subst hjk
        rw [List.getElem?_set_self (by omega)] at hyj
        cases hyj
        rcases hat with hat | hat
        · rw [hat]
          exact h4 i _ y x g hij hyi hx hg1
        · rw [hat]
          intro hu
          have := hold i y hij hyi g hg1
          have := Option.some.inj hu
          omega
      · rw [List.getElem?_set_ne (by omega)] at hyj
        exact h4 i j y u g hij hyi hyj hg1
theorem GRows.rarg {w : World} {B n : Nat} {cells : List Value} {M : Sto} (h : GRows w B n cells M) : RArg w (.slice (some ⟨B, 0, none⟩) n n) M := by
  obtain ⟨h1, h0, h2, _⟩ := h
  have hB : B < w.heap.size := (h1.lt B rfl).2
  have hmx : n ≤ maxLen := by
    rcases h1.2 with ⟨h', _⟩ | ⟨g, cap, cur, h', _, _, hc1, hc2, _⟩
    · cases h'
    · exact Nat.le_trans hc1 hc2
  refine ⟨_, n, by rw [h0], ⟨by omega, hmx⟩, fun i r hr => ?_⟩
  have hi : i < n := by rw [← h0]; exact (List.getElem?_eq_some_iff.1 hr).1
  obtain ⟨x, hx, ho⟩ := h2 i r hr
  exact ⟨B, 0, x, rfl, hB, by rw [Nat.zero_add, h1.cellAt i (by omega)]; exact hx, own_ilist ho⟩
theorem lits_bounds (vs : List MVar) (hva : VarsAll vs) (p : Nat) (hp : ∀ i, p.testBit i = true → (wholeP vs).testBit i = true) : ∀ l ∈ litsP vs p, 0 ≤ l.var ∧ l.var < (vs.length : Int) ∧ -100 ≤ l.n ∧ l.n ≤ 100 := by
  intro l hl
  unfold litsP at hl
  obtain ⟨i, hi, rfl⟩ := List.mem_map.1 hl
  unfold bitsL at hi
  have hb := hp i (List.mem_filter.1 hi).2
  unfold wholeP ofP at hb
  rw [testBit_of vs hva.1] at hb
  simp only [Bool.and_eq_true, decide_eq_true_eq] at hb
  have h1 := hva.2 (i / 6) hb.1
  have h2 := hva.1.2 (i / 6)
  simp only
  omega
theorem storeF_take (ls : Cla) (k : Nat) (l : MLit) (h : ls[k]? = some l) (s : Sto) : storeF (ls.take (k + 1)) s = (storeF (ls.take k) s).set l.var.toNat ((storeF (ls.take k) s).getD l.var.toNat [] ++ [l.n]) := by
  rw [List.take_add_one, h]
  generalize ls.take k = q
  induction q generalizing s with
  | nil => simp [storeF]
  | cons x r ih => simp only [List.cons_append]; unfold storeF; exact ih _

theorem storeF_small : ∀ (c : Cla) (s : Sto) (v : Nat), ((storeF c s).getD v []).length ≤ (s.getD v []).length + c.length
  | [], s, v => by simp [storeF]
  | l :: r, s, v => by
    unfold storeF
    have := storeF_small r (s.set l.var.toNat (s.getD l.var.toNat [] ++ [l.n])) v
    have h2 : ((s.set l.var.toNat (s.getD l.var.toNat [] ++ [l.n])).getD v []).length ≤ (s.getD v []).length + 1 := by
      by_cases he : l.var.toNat = v
      · subst he
        by_cases hl : l.var.toNat < s.length
        · simp [List.getD_eq_getElem?_getD, hl]
        · simp [List.getD_eq_getElem?_getD, Nat.le_of_not_lt hl]
      · simp [List.getD_eq_getElem?_getD, he]
    rw [List.length_cons]
    omega
theorem lown_cell {base : Nat} {w : World} {a : Option Addr} {c : Nat} {l : Cla} (h : LOwn base w (.slice a l.length c) l) (i : Nat) (t : MLit) (hi : l[i]? = some t) : ∃ b off, a = some ⟨b, off, none⟩ ∧ b < w.heap.size ∧
    w.cell? ⟨b, off + i * 3, none⟩ = some (.int .i64 t.var) ∧ w.cell? ⟨b, off + i * 3 + 1, none⟩ = some (.int .i64 t.op) ∧ w.cell? ⟨b, off + i * 3 + 2, none⟩ = some (.int .i64 t.n) := by
  obtain ⟨a', c', he, _, h2⟩ := h.arg
  cases he
  exact h2 i t hi
set_option maxHeartbeats 6400000 in
set_option maxRecDepth 100000 in
theorem fstore_any (vs : List MVar) (hva : VarsAll vs) (p : Nat) (hp : ∀ i, p.testBit i = true → (wholeP vs).testBit i = true) (sv : Value) (w : World) (hv : VArg w sv vs) (hT : TabT w) :
    Calls Tryz.prog 134 #[sv, .int .u64 p] w fun e w' => ∃ B cells, e = .returned (.slice (some ⟨B, 0, none⟩) vs.length vs.length) ∧ GRows w' B vs.length cells (storeP vs p) ∧ w.heap.size ≤ B ∧ Below w.heap.size w w' := by
  have h6 := hva.1.1
  have HLT : Hid (∀ Y, Below w.heap.size w Y → Calls Tryz.prog 197 #[sv, .int .u64 p] Y fun e w' => ∃ x, e = .returned x ∧ LOwn Y.heap.size w' x (litsP vs p) ∧ Below Y.heap.size Y w') := fun Y hY => flits_any vs hva p hp sv Y (VArg.below hY hv) (hT.below hY)
  have HBD : Hid (∀ l ∈ litsP vs p, 0 ≤ l.var ∧ l.var < (vs.length : Int) ∧ -100 ≤ l.n ∧ l.n ≤ 100) := lits_bounds vs hva p hp
  have hl36 := lits_len vs p
  unfold storeP
  obtain ⟨ls, hls⟩ : ∃ ls, litsP vs p = ls := ⟨_, rfl⟩
  rw [hls] at HLT HBD hl36 ⊢
  obtain ⟨a, c, rfl, _, _⟩ := hv
  obtain ⟨n, hn⟩ : ∃ n, vs.length = n := ⟨_, rfl⟩
  rw [hn] at HLT HBD h6 ⊢
  obtain ⟨wm, hrun, hrows, hbm⟩ := make_store n h6 w
  have HROWS : Hid (GRows wm w.heap.size n (List.replicate n (.slice none 0 0)) (List.replicate n [])) := by
    obtain ⟨k1, k2, k3⟩ := hrows (List.replicate n [])
    refine ⟨k1, by simp, fun i r hr => ?_, fun i j x y g _ hx _ hg => ?_⟩
    · have hi : i < n := by have := (List.getElem?_eq_some_iff.1 hr).1; simpa using this
      have : r = [] := by rw [List.getElem?_replicate, if_pos hi] at hr; exact (Option.some.inj hr).symm
      subst this
      exact ⟨_, k3 i (Nat.zero_le _) hi, World.ownsRow_nil _ _ _ _⟩
    · rw [List.getElem?_replicate] at hx
      split at hx
      · cases hx; cases hg
      · cases hx
  have HBM : Hid (Below w.heap.size w wm) := hbm
  obtain ⟨B, hB⟩ : ∃ B, B = w.heap.size := ⟨_, rfl⟩
  rw [← hB] at hrun HROWS
  have hBw : w.heap.size ≤ B := by omega
  obtain ⟨i0, hi, hz0, hz1, hz2⟩ := info_parts Tryz.infoInt
  clear hrows hbm hB hls hva hp hT hn
  go_enter Tryz.func134, Tryz.ntmps134
  go_wp2_with fail
  clear hrun
  refine (HLT.out _ HBM.out).mono ?_
  rintro e w1 ⟨x, rfl, hown, hb1⟩
  obtain ⟨K, hK⟩ : ∃ K, wm.heap.size = K := ⟨_, rfl⟩
  rw [hK] at hown
  have HLO : Hid (LOwn K w1 x ls) := hown
  have HG1 : Hid (GRows w1 B n (List.replicate n (.slice none 0 0)) (List.replicate n [])) := HROWS.out.kept hb1
  have HB1 : Hid (Below w.heap.size w w1) := HBM.out.trans (hb1.mono HBM.out.size)
  obtain ⟨al, cl, rfl⟩ := own_form (show w1.ownsRow _ _ _ _ _ _ from hown)
  clear hK hown hb1 HROWS HBM HLT
  go_wp2_with fail
  go_loopw [15] (fun i wr => ∃ (k : Nat) (cells : List Value), k ≤ ls.length ∧ i = .int .i64 k ∧ GRows wr B n cells (storeF (ls.take k) (List.replicate n [])) ∧ LOwn K wr (.slice al (List.length ls) cl) ls ∧ Below w.heap.size w wr) (fun i _ => ls.length - (intOf i).toNat)
  case atStart => exact ⟨0, _, by omega, rfl, HG1.out, HLO.out, HB1.out⟩
  case round =>
    obtain ⟨k, cells, hk, rfl, hg, hlo, hbw⟩ := hrel
    have HG : Hid (GRows wr B n cells (storeF (ls.take k) (List.replicate n []))) := hg
    have HLO2 : Hid (LOwn K wr (.slice al (List.length ls) cl) ls) := hlo
    have HBW : Hid (Below w.heap.size w wr) := hbw
    clear hg hlo hbw
    by_cases hlt : k < ls.length
    · obtain ⟨l, hl⟩ : ∃ l, ls[k]? = some l := ⟨ls[k], by simp [hlt]⟩
      have HN : Hid (storeF (ls.take (k + 1)) (List.replicate n []) = (storeF (ls.take k) (List.replicate n [])).set l.var.toNat ((storeF (ls.take k) (List.replicate n [])).getD l.var.toNat [] ++ [l.n])) := storeF_take ls k l hl _
      obtain ⟨b0, b1, b2, b3⟩ := HBD.out l (List.mem_of_getElem? hl)
      obtain ⟨M, hM⟩ : ∃ M, storeF (ls.take k) (List.replicate n []) = M := ⟨_, rfl⟩
      rw [hM] at HN HG
      have hML : M.length = n := HG.out.2.1
      obtain ⟨lv, lo, ln⟩ := l
      simp only at b0 b1 b2 b3
      obtain ⟨v, rfl⟩ : ∃ v : Nat, lv = (v : Int) := ⟨lv.toNat, by omega⟩
      obtain ⟨r, hr⟩ : ∃ r, M[v]? = some r := ⟨M[v], by rw [List.getElem?_eq_getElem (by omega)]⟩
      have HR : Hid (M[v]? = some r) := hr
      have HN2 : Hid (storeF (ls.take (k + 1)) (List.replicate n []) = M.set v (r ++ [ln])) := by
        show _ = _
        rw [HN.out]
        simp only [Int.toNat_natCast]
        rw [List.getD_eq_getElem?_getD, hr]; rfl
      have hrl : r.length ≤ 36 := by
        have := storeF_small (ls.take k) (List.replicate n []) v
        rw [hM, List.getD_eq_getElem?_getD, hr] at this
        simp only [Option.getD_some, List.length_take] at this
        have h0 : ((List.replicate n ([] : List Int)).getD v []).length = 0 := by simp [List.getD_eq_getElem?_getD, show v < n by omega]
        omega
      obtain ⟨htop, _, hrws, _⟩ := HG.out
      obtain ⟨x, hx, hox⟩ := hrws v r hr
      have HX : Hid (cells[v]? = some x) := hx
      obtain ⟨ax, cx, rfl⟩ := own_form hox
      have hcx : wr.cell? ⟨B, v, none⟩ = some (.slice ax r.length cx) := by rw [htop.cellAt v (by omega)]; exact hx
      have hlB : B < wr.heap.size := (htop.lt B rfl).2
      obtain ⟨ad, off, hal, hlb, hc0, hc1, hc2⟩ := lown_cell HLO2.out k _ hl
      subst hal
      simp only at hc0 hc1 hc2
      have hbs := HBW.out.size
      clear hl hr hx hM htop hrws HN
      go_wp2_with fail
      obtain ⟨Y, hY⟩ : ∃ Y, wr.alloc (.cells #[.int .i64 (v : Int), .int .i64 lo, .int .i64 ln] 88) = Y := ⟨_, rfl⟩
      rw [hY]
      have hBY : Below wr.heap.size wr Y := by rw [← hY]; exact below_alloc _ _
      have HGY : Hid (GRows Y B n cells M) := HG.out.kept hBY
      have HLOY : Hid (LOwn K Y (.slice (some ⟨ad, off, none⟩) (List.length ls) cl) ls) := own_below (show wr.ownsRow _ _ _ _ _ _ from HLO2.out) hBY
      have HBY : Hid (Below w.heap.size w Y) := HBW.out.trans (hBY.mono hbs)
      have hoxY : Y.ownsRow (B + 1) 3 1 (.slice ax r.length cx) r.length (r.map (Value.int .i64)) := own_below hox hBY
      have d0 : Y.cell? ⟨wr.heap.size, 0, none⟩ = some (.int .i64 (v : Int)) := by rw [← hY]; simp
      have d2 : Y.cell? ⟨wr.heap.size, 2, none⟩ = some (.int .i64 ln) := by rw [← hY]; simp
      have dl : wr.heap.size < Y.heap.size := by rw [← hY]; simp
      have dB : Y.cell? ⟨B, v, none⟩ = some (.slice ax r.length cx) := (hBY.cell (p := ⟨B, v, none⟩) hlB).trans hcx
      have dlB : B < Y.heap.size := by omega
      have hvn : v < n := by omega
      have hvn2 : (v : Int) < (n : Int) := by omega
      obtain ⟨q, hq⟩ : ∃ q, wr.heap.size = q := ⟨_, rfl⟩
      have HXQ : Hid (some q ≠ (Value.slice ax r.length cx).ownBlock) := fun h => by have := (hox.lt q h.symm).2; omega
      rw [hq] at d0 d2 dl ⊢
      clear hc0 hc1 hc2 hcx hox hY hBY hq HG HLO2 hlB hlb
      go_region_law
        (first
          | (rw [if_pos (by rfl)]; refine wp_append_own_at _ _ _ 26 rfl (B + 1) 3 i0 _ 1 8 Tryz.underlying26 hi hz0 hz1 hz2 rfl (by decide) _ _ _ rfl (hoxY.drew.alloc _) ⟨Y.heap.size, 0, none⟩ 1 1 [.int .i64 ln] rfl rfl (one_laid Y.drew ln) (by intro u hu; simp at hu; subst hu; rfl) ?_ ?_ ?_ ?_; (unfold maxLen; omega); omega; (simp; omega); intro v4 w4 hown4 hg4 hat4; obtain ⟨av, cv, hv4⟩ := own_form hown4; subst hv4; have ht4 : w4.ownsRow B 26 1 (.slice (some ⟨B, 0, none⟩) n n) n cells := (HGY.out.1.drew.alloc _).kept hg4 (Or.inr (fun h => by have := (hoxY.lt B h.symm).1; omega)); have hcB : w4.cell? ⟨B, v, none⟩ = some (.slice ax r.length cx) := by rw [ht4.cellAt v (by omega)]; exact HX.out
             have hfB : w4.frozen? ⟨B, v, none⟩ = false := ht4.frozenAt v
             have hl4 : B < w4.heap.size := (ht4.lt B rfl).2
             have e0 : w4.cell? ⟨q, 0, none⟩ = some (.int .i64 (v : Int)) := hg4.cell ((((Below.refl _ _).drew.alloc (Nat.le_refl _) _ : Below Y.heap.size Y _).cell (p := ⟨q, 0, none⟩) dl).trans d0) HXQ.out
             have el : q < w4.heap.size := by have := hg4.size; simp at this; omega))
      all_goals
        have hown5 : w4.ownsRow (B + 1) 3 1 (.slice av (r.length + 1) cv) (r ++ [ln]).length ((r ++ [ln]).map (Value.int .i64)) := by
          rw [List.length_append, List.map_append]; exact hown4
        have HP : Hid (GRows (w4.setCell ⟨B, v, none⟩ (.slice av (r.length + 1) cv)) B n (cells.set v (.slice av (r.length + 1) cv)) (M.set v (r ++ [ln]))) :=
          (HGY.out.kept ((Below.refl _ _).drew.alloc (Nat.le_refl _) _)).push HR.out HX.out hown5 hg4 hat4
        have HB5 : Hid (Below w.heap.size w (w4.setCell ⟨B, v, none⟩ (.slice av (r.length + 1) cv))) :=
          ((HBY.out.drew.alloc HBY.out.size _).grown hg4 (by have := HBY.out.size; simp; omega) (fun g h => by have := (hoxY.lt g h).1; omega)).setCell (by simp only; omega) _
        have HL5 : Hid (LOwn K (w4.setCell ⟨B, v, none⟩ (.slice av (r.length + 1) cv)) (.slice (some ⟨ad, off, none⟩) (List.length ls) cl) ls) := by
          have h1 : (Y.drew.alloc (.cells #[.int .i64 ln] 3)).ownsRow K 88 3 (.slice (some ⟨ad, off, none⟩) (List.length ls) cl) ls.length (litsCs ls) := (show Y.drew.ownsRow _ _ _ _ _ _ from HLOY.out).alloc _
          have h2 := own_grown h1 hg4 (hoxY.drew.alloc _) (by decide)
          rcases ht4.2 with ⟨h', _⟩ | ⟨g, cap, cur, h', _, hh, _⟩
          · cases h'
          · cases h'
            exact own_set h2 hh (by decide) v _
        go_wp2
        go_roundw
        case rel => exact ⟨k + 1, _, by omega, by go_num, by rw [HN2.out]; exact HP.out, HL5.out, HB5.out⟩
        case measure => simp [intOf]; omega
    · have HN : Hid (ls.take k = ls) := List.take_of_length_le (by omega)
      go_wp2
      go_ret
      rw [HN.out] at HG
      exact ⟨_, _, rfl, HG.out, hBw, HBW.out⟩
end Go.Proofs.YtdjbejlbmaiocagGreatDoor
/-
  MEMORY: a searcher: its rules, its proof, which clauses stand in it, its path.
-/
namespace Go.Proofs.YtdjbejlbmaiocagGreatDoor
open Go.RowKit Go.Maps

theorem Tryz.partKey : Keyed Tryz.prog 183 := int_keyed Tryz.underlying183
theorem Tryz.underThere : Tryz.prog.underlying 118 = some (.map 183 211) := by kernel_rfl
def setU {H : Type} (l : List Nat) : DataW H := setOf (.agg []) (l.map fun z : Nat => Lit.int .u64 (z : Int))
theorem any_litU (x : Nat) : ∀ l : List Nat, l.any ((fun y : Lit => y.sameKey (.int .u64 (x : Int))) ∘ fun z : Nat => Lit.int .u64 (z : Int)) = l.contains x
  | [] => rfl
  | a :: r => by
    rw [List.any_cons, List.contains_cons, any_litU x r]
    congr 1
    show decide (IntKind.u64 = IntKind.u64 ∧ (a : Int) = (x : Int)) = (x == a)
    by_cases e : a = x
    · subst e
      simp
    · have e' : ¬ x = a := fun h => e h.symm
      have e2 : ¬ (a : Int) = (x : Int) := fun h => e (by omega)
      simp [e2, e']
theorem has_setU {H : Type} (l : List Nat) (x : Nat) : Maps.has (setU (H := H) l) (.int .u64 (x : Int)) = l.contains x := by
  unfold setU
  rw [has_setOf _ _ _ (fun y hy => by obtain ⟨_, _, rfl⟩ := List.mem_map.1 hy; trivial), List.any_map]
  exact any_litU x _
theorem setU_next {H : Type} (l : List Nat) (x : Nat) : setU (H := H) (l ++ [x]) = (setU l).put (.int .u64 (x : Int)) (.agg []) := by
  unfold setU; rw [List.map_append]; exact setOf_snoc _ _ _
theorem key_part (z : Nat) (h : z < 2 ^ 36) : keyOf Tryz.prog 183 (.int .u64 (z : Int)) = some (.int .u64 (z : Int)) := keyOf_int_mk Tryz.underlying183 (WalkArith.wf_u64 (by omega))

/-- A row is not a map. -/
theorem own_not_map {w : World} {B : Nat} {e : TypeId} {s n : Nat} {v : Value} {xs : List Value} {k : TypeId} {R : Value → Option (DataW Unit × List MemPlace)} {b m : Nat} {D : DataW Unit} (h : w.ownsRow B e s v n xs) (hm : w.ownsMap Tryz.prog k R b m D) : v.ownBlock ≠ some b := by
  intro he
  obtain ⟨es, clock, hb, _⟩ := hm
  rcases h.2 with ⟨rfl, _⟩ | ⟨g, cap, cur, rfl, _, hg, _⟩
  · cases he
  · have : g = b := by simpa [Value.ownBlock] using he
    subst this
    rw [hb] at hg
    cases hg
theorem blk_not_map {w : World} {q : Nat} {cs : Array Value} {t : TypeId} {k : TypeId} {R : Value → Option (DataW Unit × List MemPlace)} {b m : Nat} {D : DataW Unit} (h : w.heap[q]? = some (.cells cs t)) (hm : w.ownsMap Tryz.prog k R b m D) : q ≠ b := by
  rintro rfl
  obtain ⟨es, clock, hb, _⟩ := hm
  rw [hb] at h
  cases h
/-- Blocks of other types are as they were. -/
def TNo (t : TypeId) : Prop := t ≠ 204 ∧ t ≠ 120 ∧ t ≠ 183 ∧ t ≠ 93 ∧ t ≠ 88
structure TFr (w w' : World) : Prop where
  os : w'.os = w.os
  tape : w'.tape = w.tape
  output : w'.output = w.output
  size : w.heap.size ≤ w'.heap.size
  block : ∀ (k : Nat) (cs : Array Value) (t : TypeId) (z : Nat × Nat), w.heap[k]? = some (.cells cs t z) → TNo t → w'.heap[k]? = w.heap[k]?
theorem TFr.refl (w : World) : TFr w w := ⟨rfl, rfl, rfl, Nat.le_refl _, fun _ _ _ _ _ _ => rfl⟩
theorem TFr.trans {a b c : World} (h : TFr a b) (k : TFr b c) : TFr a c :=
  ⟨k.os.trans h.os, k.tape.trans h.tape, k.output.trans h.output, Nat.le_trans h.size k.size, fun q cs t z hq ht => (k.block q cs t z ((h.block q cs t z hq ht).trans hq) ht).trans (h.block q cs t z hq ht)⟩
theorem TFr.below {w w' : World} (h : Below w.heap.size w w') : TFr w w' := ⟨h.os, h.tape, h.output, h.size, fun k _ _ _ hk _ => h.block k (Array.getElem?_eq_some_iff.1 hk).1⟩
theorem TFr.grown {w w' : World} {B : Nat} {e : TypeId} {s n : Nat} {v : Value} {xs : List Value} (ho : w.ownsRow B e s v n xs) (hg : w.grownBy w' v.ownBlock) (he : ¬ TNo e) : TFr w w' :=
  ⟨hg.os, hg.tape, hg.output, hg.size, fun k cs t z hk ht => hg.block k (Array.getElem?_eq_some_iff.1 hk).1 fun h => by
    rcases ho.2 with ⟨rfl, _⟩ | ⟨g, cap, cur, rfl, _, hh, _⟩
    · cases h
    · have : k = g := by simpa [Value.ownBlock] using h
      subst this
      have := hk.symm.trans hh
      simp only [Option.some.injEq, Obj.cells.injEq] at this
      rw [this.2.1] at ht
      exact he ht⟩
theorem TFr.set {w : World} {C : Nat} {cs : Array Value} {t : TypeId} (hC : w.heap[C]? = some (.cells cs t)) (he : ¬ TNo t) (i : Nat) (u : Value) : TFr w (w.setCell ⟨C, i, none⟩ u) :=
  ⟨rfl, rfl, rfl, by simp, fun k cs' t' z hk ht => by
    refine Below.heap_setCell w ⟨C, i, none⟩ u k ?_
    rintro rfl
    have := hk.symm.trans hC
    simp only [Option.some.injEq, Obj.cells.injEq] at this
    rw [this.2.1] at ht
    exact he ht⟩
theorem TFr.map {w w' : World} {k : TypeId} {R : Value → Option (DataW Unit × List MemPlace)} {b m : Nat} {D : DataW Unit} (hm : w.ownsMap Tryz.prog k R b m D) (hg : w.grownBy w' (some b)) : TFr w w' :=
  ⟨hg.os, hg.tape, hg.output, hg.size, fun q cs t z hq ht => hg.block q (Array.getElem?_eq_some_iff.1 hq).1 fun h => by
    obtain ⟨es, clock, h1, _⟩ := hm
    rw [← Option.some.inj h] at h1
    rw [h1] at hq
    cases hq⟩
theorem tno_part : ¬ TNo 183 := fun h => h.2.2.1 rfl
theorem tno_step : ¬ TNo 93 := fun h => h.2.2.2.1 rfl
theorem tno_lit : ¬ TNo 88 := fun h => h.2.2.2.2 rfl
theorem tno_sek : ¬ TNo 120 := fun h => h.2.1 rfl
theorem tno_rul : ¬ TNo 204 := fun h => h.1 rfl
theorem TFr.own {w w' : World} {B : Nat} {e : TypeId} {s n : Nat} {v : Value} {xs : List Value} (h : TFr w w') (ho : w.ownsRow B e s v n xs) (he : TNo e) : w'.ownsRow B e s v n xs :=
  ⟨ho.1, by
    rcases ho.2 with hn | ⟨g, cap, cur, hv, hg, hh, r⟩
    · exact .inl hn
    · exact .inr ⟨g, cap, cur, hv, hg, (h.block g cur e (0, 0) hh he).trans hh, r⟩⟩
def XS (s r mb : Nat) (k : Nat) : Prop := k = r ∨ k = s ∨ k = mb
/-- What stays of a searcher. -/
structure SkB (W : World) (s r mb : Nat) (sv pv : Value) (vs : List MVar) (pt : List (List Nat)) : Prop where
  rlt : r < W.heap.size
  slt : s < W.heap.size
  mlt : mb < W.heap.size
  keep : ∀ w', Fr (XS s r mb) W w' → VArg w' sv vs ∧ PPArg w' pv pt ∧ TabT w'
/-- What changes. -/
structure SkD (W w : World) (s r mb : Nat) (sv pv cv prv pav : Value) (L : List SV) (M : List Nat) (S : Sk) : Prop where
  blkR : w.heap[r]? = some (.cells #[sv, pv, cv] 204)
  blkS : w.heap[s]? = some (.cells #[sv, .pointer (some ⟨r, 0, none⟩), .int .i64 (S.fuel : Int), prv, .map (some mb), pav] 120)
  own : w.ownsRow W.heap.size 183 1 cv S.cs.length (u64s S.cs)
  lt36 : ∀ z ∈ S.cs, z < 2 ^ 36
  prf : StOwn W.heap.size w prv L
  prfE : L.map (·.1) = S.proof
  map : w.ownsMap Tryz.prog 183 (unitElem (H := Unit)) mb M.length (setU M)
  path : LOwn W.heap.size w pav S.path
  apart : ∀ x ∈ L, ∀ g, x.2.ownBlock = some g → pav.ownBlock ≠ some g
  fr : Fr (XS s r mb) W w
variable {W w w' w1 w2 : World} {s r mb : Nat} {sv pv cv prv pav v' : Value} {L : List SV} {M : List Nat} {S : Sk} {vs : List MVar} {pt : List (List Nat)}
theorem map_below {k : TypeId} {R : Value → Option (DataW Unit × List MemPlace)} {b m : Nat} {D : DataW Unit} (h : w.ownsMap Tryz.prog k R b m D) (hb : Below w.heap.size w w') : w'.ownsMap Tryz.prog k R b m D := by
  obtain ⟨es, clock, h1, h2⟩ := h
  exact ⟨es, clock, (hb.block b (Array.getElem?_eq_some_iff.1 h1).1).trans h1, h2⟩
theorem SkD.below (h : SkD W w s r mb sv pv cv prv pav L M S) (hb : Below w.heap.size w w') : SkD W w' s r mb sv pv cv prv pav L M S :=
  ⟨(hb.block r (Array.getElem?_eq_some_iff.1 h.blkR).1).trans h.blkR, (hb.block s (Array.getElem?_eq_some_iff.1 h.blkS).1).trans h.blkS, own_below h.own hb, h.lt36, h.prf.below hb, h.prfE, map_below h.map hb, own_below h.path hb, h.apart, h.fr.trans (Fr.below hb)⟩
theorem SkD.rules (h : SkD W w s r mb sv pv cv prv pav L M S) (hB : SkB W s r mb sv pv vs pt) : RulesAt w r sv pv cv vs pt S.cs :=
  ⟨(Array.getElem?_eq_some_iff.1 h.blkR).1, blk9 h.blkR 0 _ rfl, blk9 h.blkR 1 _ rfl, blk9 h.blkR 2 _ rfl, (hB.keep w h.fr).1, (hB.keep w h.fr).2.1, own_parts h.own h.lt36, (hB.keep w h.fr).2.2⟩
theorem SkD.ns (h : SkD W w s r mb sv pv cv prv pav L M S) : s ≠ mb := blk_not_map h.blkS h.map
theorem SkD.nr (h : SkD W w s r mb sv pv cv prv pav L M S) : r ≠ mb := blk_not_map h.blkR h.map
theorem SkD.rs (h : SkD W w s r mb sv pv cv prv pav L M S) : r ≠ s := by
  rintro rfl
  have := h.blkR.symm.trans h.blkS
  simp at this
theorem SkD.cells (h : SkD W w s r mb sv pv cv prv pav L M S) : s < w.heap.size ∧ w.cell? ⟨s, 0, none⟩ = some sv ∧ w.cell? ⟨s, 1, none⟩ = some (.pointer (some ⟨r, 0, none⟩)) ∧ w.cell? ⟨s, 2, none⟩ = some (.int .i64 (S.fuel : Int)) ∧ w.cell? ⟨s, 3, none⟩ = some prv ∧ w.cell? ⟨s, 4, none⟩ = some (.map (some mb)) ∧ w.cell? ⟨s, 5, none⟩ = some pav :=
  ⟨(Array.getElem?_eq_some_iff.1 h.blkS).1, blk9 h.blkS 0 _ rfl, blk9 h.blkS 1 _ rfl, blk9 h.blkS 2 _ rfl, blk9 h.blkS 3 _ rfl, blk9 h.blkS 4 _ rfl, blk9 h.blkS 5 _ rfl⟩
theorem SkD.frz (h : SkD W w s r mb sv pv cv prv pav L M S) (i : Nat) : w.frozen? ⟨s, i, none⟩ = false := frz9 h.blkS i
theorem heap_other (w : World) (p : Addr) (u : Value) (k : Nat) (hk : k ≠ p.block) : (w.setCell p u).heap[k]? = w.heap[k]? := Below.heap_setCell _ _ _ _ hk
theorem StOwn.set {base : Nat} {v : Value} {C : Nat} {cs : Array Value} {t : TypeId} (h : StOwn base w v L) (hC : w.heap[C]? = some (.cells cs t)) (h1 : t ≠ 93) (h2 : t ≠ 88) (i : Nat) (u : Value) : StOwn base (w.setCell ⟨C, i, none⟩ u) v L :=
  ⟨own_set h.1 hC h1 i u, fun x hx => own_set (h.2 x hx) hC h2 i u⟩
/-- A cell of the searcher's own block is set. -/
theorem SkD.setS {S' : Sk} {prv' pav' : Value} {L' : List SV} (i : Nat) (u : Value) (hR : w.heap[r]? = some (.cells #[sv, pv, cv] 204))
    (hS : w.heap[s]? = some (.cells #[sv, .pointer (some ⟨r, 0, none⟩), .int .i64 (S.fuel : Int), prv, .map (some mb), pav] 120))
    (hu : (#[sv, .pointer (some ⟨r, 0, none⟩), .int .i64 (S.fuel : Int), prv, .map (some mb), pav] : Array Value).set! i u = #[sv, .pointer (some ⟨r, 0, none⟩), .int .i64 (S'.fuel : Int), prv', .map (some mb), pav'])
    (hown : w.ownsRow W.heap.size 183 1 cv S'.cs.length (u64s S'.cs)) (hlt : ∀ z ∈ S'.cs, z < 2 ^ 36) (hprf : StOwn W.heap.size w prv' L') (hpe : L'.map (·.1) = S'.proof)
    (hmap : w.ownsMap Tryz.prog 183 (unitElem (H := Unit)) mb M.length (setU M)) (hpath : LOwn W.heap.size w pav' S'.path) (hap : ∀ x ∈ L', ∀ g, x.2.ownBlock = some g → pav'.ownBlock ≠ some g) (hfr : Fr (XS s r mb) W w) :
    SkD W (w.setCell ⟨s, i, none⟩ u) s r mb sv pv cv prv' pav' L' M S' := by
  have hrs : r ≠ s := by
    rintro rfl
    have := hR.symm.trans hS
    simp at this
  refine ⟨(heap_other w ⟨s, i, none⟩ u r hrs).trans hR, ?_, own_set hown hS (by decide) i u, hlt, hprf.set hS (by decide) (by decide) i u, hpe, hmap.setCell (Ne.symm (blk_not_map hS hmap)) u, own_set hpath hS (by decide) i u, hap, hfr.setX (p := ⟨s, i, none⟩) (Or.inr (Or.inl rfl)) u⟩
  rw [heap_setCell_same w s i _ _ u hS, ← hu]
  simp
/-- Fuel is burnt. -/
theorem SkD.burn (h : SkD W w s r mb sv pv cv prv pav L M S) (f : Nat) : SkD W (w.setCell ⟨s, 2, none⟩ (.int .i64 (f : Int))) s r mb sv pv cv prv pav L M ⟨S.cs, f, S.proof, S.path⟩ :=
  SkD.setS (S := S) 2 _ h.blkR h.blkS rfl h.own h.lt36 h.prf h.prfE h.map h.path h.apart h.fr
/-- The path is cut. -/
theorem SkD.cutp {g n c : Nat} (k : Nat) (hk : k ≤ n) (h : SkD W w s r mb sv pv cv prv (.slice (some ⟨g, 0, none⟩) n c) L M S) (hn : n = S.path.length) : SkD W (w.setCell ⟨s, 5, none⟩ (.slice (some ⟨g, 0, none⟩) k c)) s r mb sv pv cv prv (.slice (some ⟨g, 0, none⟩) k c) L M ⟨S.cs, S.fuel, S.proof, S.path.take k⟩ := by
  refine SkD.setS (S := S) 5 _ h.blkR h.blkS rfl h.own h.lt36 h.prf h.prfE h.map ?_ (fun x hx g' hg' => h.apart x hx g' hg') h.fr
  subst hn
  have h0 := lown_e h.path
  rw [List.length_map] at h0
  have h1 := own_shrink k hk h0
  rw [flat_take 3 k _ (lits_wide _), ← List.map_take] at h1
  refine e_lown ?_
  rw [List.length_map, List.length_take, Nat.min_eq_left (by simpa using hk)]
  exact h1
/-- One more step of the proof. -/
theorem SkD.push {x : SV} {n : Nat} (h : SkD W w s r mb sv pv cv prv pav L M S) (hb : Below w.heap.size w w1) (hx : LOwn W.heap.size w1 x.2 x.1.cla) (hxa : ∀ g, x.2.ownBlock = some g → pav.ownBlock ≠ some g) (hg : w1.grownBy w2 prv.ownBlock) (hn : n = L.length + 1)
    (ho : w2.ownsRow W.heap.size 93 3 v' n ((L.map stepCs).flatten ++ stepCs x)) : SkD W (w2.setCell ⟨s, 3, none⟩ v') s r mb sv pv cv v' pav (L ++ [x]) M ⟨S.cs, S.fuel, S.proof ++ [x.1], S.path⟩ := by
  have h1 := h.below hb
  refine SkD.setS (S := S) 3 _ (blk_grown h1.blkR hg h1.prf.1 (by decide)) (blk_grown h1.blkS hg h1.prf.1 (by decide)) rfl (own_grown h1.own hg h1.prf.1 (by decide)) h.lt36 (h1.prf.push hx hg hn ho) (by rw [List.map_append, h.prfE]; rfl)
    (h1.map.kept hg (Ne.symm (own_not_map h1.prf.1 h1.map))) (own_grown h1.path hg h1.prf.1 (by decide)) (fun y hy g hg' => ?_) (h1.fr.grown hg fun k hk => Or.inr (h1.prf.1.lt k hk).1)
  rcases List.mem_append.1 hy with hy | hy
  · exact h.apart y hy g hg'
  · rw [List.mem_singleton.1 hy] at hg'
    exact hxa g hg'
/-- One more literal of the path. -/
theorem SkD.pushp {l : MLit} {n : Nat} (h : SkD W w s r mb sv pv cv prv pav L M S) (hb : Below w.heap.size w w1) (hg : w1.grownBy w2 pav.ownBlock) (hat : v'.ownBlock = pav.ownBlock ∨ v'.ownBlock = some w1.heap.size) (hn : n = S.path.length + 1)
    (ho : w2.ownsRow W.heap.size 88 3 v' n (litsCs S.path ++ litCs l)) : SkD W (w2.setCell ⟨s, 5, none⟩ v') s r mb sv pv cv prv v' L M ⟨S.cs, S.fuel, S.proof, S.path ++ [l]⟩ := by
  have h1 := h.below hb
  have hst : StOwn W.heap.size w2 prv L := ⟨own_grown h1.prf.1 hg h1.path (by decide), fun x hx => by
    refine (h1.prf.2 x hx).kept hg ?_
    cases hxb : x.2.ownBlock with
    | none => exact Or.inl rfl
    | some g => exact Or.inr fun he => h.apart x hx g hxb he.symm⟩
  refine SkD.setS (S := S) 5 _ (blk_grown h1.blkR hg h1.path (by decide)) (blk_grown h1.blkS hg h1.path (by decide)) rfl (own_grown h1.own hg h1.path (by decide)) h.lt36 hst h.prfE
    (h1.map.kept hg (Ne.symm (own_not_map h1.path h1.map))) ?_ (fun y hy g hg' => ?_) (h1.fr.grown hg fun k hk => Or.inr (h1.path.lt k hk).1)
  · show World.ownsRow _ _ _ _ _ _ _
    unfold litsCs at *
    rw [List.length_append, List.length_singleton, ← hn, List.flatMap_append]
    simpa using ho
  · rcases hat with hat | hat
    · rw [hat]; exact h.apart y hy g hg'
    · rw [hat]
      intro he
      have := ((h1.prf.2 y hy).lt g hg').2
      have := Option.some.inj he
      omega
/-- One more key. -/
theorem SkD.key (h : SkD W w s r mb sv pv cv prv pav L M S) (z n : Nat) (hn : n = M.length + 1) (hg : w.grownBy w' (some mb)) (hm : w'.ownsMap Tryz.prog 183 (unitElem (H := Unit)) mb n ((setU M).put (.int .u64 (z : Int)) (.agg []))) :
    SkD W w' s r mb sv pv cv prv pav L (M ++ [z]) S := by
  have ko : ∀ {B : Nat} {e : TypeId} {q n : Nat} {v : Value} {xs : List Value}, w.ownsRow B e q v n xs → w'.ownsRow B e q v n xs := fun ho => ho.kept hg (Or.inr (own_not_map ho h.map))
  have kb : ∀ {q : Nat} {cs : Array Value} {t : TypeId}, w.heap[q]? = some (.cells cs t) → w'.heap[q]? = some (.cells cs t) := fun hq => (hg.block _ (Array.getElem?_eq_some_iff.1 hq).1 (fun he => blk_not_map hq h.map (Option.some.inj he))).trans hq
  refine ⟨kb h.blkR, kb h.blkS, ko h.own, h.lt36, ⟨ko h.prf.1, fun x hx => ko (h.prf.2 x hx)⟩, h.prfE, ?_, ko h.path, h.apart, h.fr.grown hg fun k hk => Or.inl (Or.inr (Or.inr (Option.some.inj hk).symm))⟩
  rw [setU_next, List.length_append, List.length_singleton, ← hn]
  exact hm
end Go.Proofs.YtdjbejlbmaiocagGreatDoor
/-
  WALK: package seek: prove.
-/
namespace Go.Proofs.YtdjbejlbmaiocagGreatDoor
open Go.RowKit Go.Maps

theorem prove_snoc (vs : List MVar) (t : MStep) : ∀ (a p : List MStep), proveF vs (a ++ [t]) p = (if ((proveF vs a p).map fun x => heldP vs x.cla).contains (heldP vs t.cla) then proveF vs a p else proveF vs a p ++ [t])
  | [], p => by simp [proveF]
  | x :: r, p => by rw [List.cons_append]; unfold proveF; exact prove_snoc vs t r _
theorem prove_len (vs : List MVar) : ∀ (a p : List MStep), (proveF vs a p).length ≤ p.length + a.length
  | [], p => by simp [proveF]
  | x :: r, p => by
    unfold proveF
    have := prove_len vs r (if (p.map fun x => heldP vs x.cla).contains (heldP vs x.cla) then p else p ++ [x])
    have h2 : (if (p.map fun x => heldP vs x.cla).contains (heldP vs x.cla) then p else p ++ [x]).length ≤ p.length + 1 := by split <;> simp
    rw [List.length_cons]
    omega
theorem steps_wide (L : List SV) : ∀ c ∈ L.map stepCs, c.length = 3 := by
  intro c hc
  obtain ⟨x, _, rfl⟩ := List.mem_map.1 hc
  rfl
theorem st_cell {base : Nat} {w : World} {a : Option Addr} {c : Nat} {T : List SV} (h : StOwn base w (.slice a T.length c) T) (i : Nat) (x : SV) (hi : T[i]? = some x) : ∃ b off, a = some ⟨b, off, none⟩ ∧ b < w.heap.size ∧
    w.cell? ⟨b, off + i * 3, none⟩ = some (.int .i64 x.1.kind) ∧ w.cell? ⟨b, off + i * 3 + 1, none⟩ = some (.int .i64 x.1.con) ∧ w.cell? ⟨b, off + i * 3 + 2, none⟩ = some x.2 := by
  rcases h.1.2 with ⟨he, hn⟩ | ⟨g, cap, cur, he, _, hh, _⟩
  · have := (List.getElem?_eq_some_iff.1 hi).1
    omega
  · cases he
    have hc : ∀ (j : Nat) (u : Value), j < 3 → (stepCs x)[j]? = some u → w.cell? ⟨g, i * 3 + j, none⟩ = some u := fun j u hj hu => by
      have hil := (List.getElem?_eq_some_iff.1 hi).1
      have h3 : (T.map stepCs).flatten[i * 3 + j]? = some u := by
        have h4 : (T.map stepCs)[i]? = some (stepCs x) := by rw [List.getElem?_map, hi]; rfl
        have h5 := flat_drop 3 i (T.map stepCs) (steps_wide T)
        have h6 : (T.map stepCs).drop i = stepCs x :: (T.map stepCs).drop (i + 1) := by
          have hl : i < (T.map stepCs).length := by simpa using hil
          rw [List.drop_eq_getElem_cons hl]
          congr 1
          rw [List.getElem?_eq_getElem hl] at h4
          exact Option.some.inj h4
        have h7 : ((T.map stepCs).flatten.drop (i * 3))[j]? = some u := by
          rw [h5, h6, List.flatten_cons, List.getElem?_append_left (by simpa [stepCs] using hj)]
          exact hu
        rwa [List.getElem?_drop] at h7
      have hlt := (List.getElem?_eq_some_iff.1 h3).1
      rw [h.1.1] at hlt
      rw [h.1.cellAt (i * 3 + j) hlt]
      exact h3
    refine ⟨g, 0, rfl, (Array.getElem?_eq_some_iff.1 hh).1, ?_, ?_, ?_⟩
    · have := hc 0 _ (by omega) rfl
      simpa using this
    · have := hc 1 _ (by omega) rfl
      simpa using this
    · have := hc 2 _ (by omega) rfl
      simpa using this
def XP (s mb : Nat) (prv : Value) (k : Nat) : Prop := k = s ∨ k = mb ∨ prv.ownBlock = some k
structure PvI (W w : World) (s r mb : Nat) (sv pv cv prv pav : Value) (vs : List MVar) (S : Sk) (base : Nat) (stv : Value) (T : List SV) (k : Nat) (wr : World) (prv' : Value) (L' : List SV) : Prop where
  sk : SkD W wr s r mb sv pv cv prv' pav L' ((proveF vs ((T.take k).map (·.1)) S.proof).map fun x => heldP vs x.cla) ⟨S.cs, S.fuel, proveF vs ((T.take k).map (·.1)) S.proof, S.path⟩
  st : StOwn base wr stv T
  ap : ∀ g, prv'.ownBlock = some g → stv.ownBlock ≠ some g
  fr : Fr (XP s mb prv) w wr
  hq : prv'.ownBlock = prv.ownBlock ∨ ∀ g, prv'.ownBlock = some g → w.heap.size ≤ g
  pb : ∀ g, pav.ownBlock = some g → g < base
  tf : TFr w wr
theorem PvI.below {W w : World} {s r mb : Nat} {sv pv cv prv pav : Value} {vs : List MVar} {S : Sk} {base : Nat} {stv : Value} {T : List SV} {k : Nat} {wr w2 : World} {prv' : Value} {L' : List SV} (h : PvI W w s r mb sv pv cv prv pav vs S base stv T k wr prv' L') (hb : Below wr.heap.size wr w2) : PvI W w s r mb sv pv cv prv pav vs S base stv T k w2 prv' L' :=
  ⟨h.sk.below hb, h.st.below hb, h.ap, h.fr.trans (Fr.below hb), h.hq, h.pb, h.tf.trans (TFr.below hb)⟩

set_option maxHeartbeats 6400000 in
set_option maxRecDepth 100000 in
theorem prove_any (vs : List MVar) (hva : VarsAll vs) (pt : List (List Nat)) (W : World) (s r mb : Nat) (sv pv cv prv pav : Value) (hB : SkB W s r mb sv pv vs pt) (L : List SV) (S : Sk) (hS : S.proof.length ≤ 6000) (T : List SV) (hT : T.length ≤ 1500) (base : Nat) (stv : Value) (w : World)
    (hD : SkD W w s r mb sv pv cv prv pav L (S.proof.map fun x => heldP vs x.cla) S) (hst : StOwn base w stv T) (hbase : W.heap.size ≤ base) (hpb : ∀ g, pav.ownBlock = some g → g < base) (hqb : ∀ g, prv.ownBlock = some g → g < base) :
    Calls Tryz.prog 194 #[.pointer (some ⟨s, 0, none⟩), stv] w fun e w' => e = .returned (.tuple #[]) ∧ ∃ prv' L', SkD W w' s r mb sv pv cv prv' pav L' ((proveF vs (T.map (·.1)) S.proof).map fun x => heldP vs x.cla) ⟨S.cs, S.fuel, proveF vs (T.map (·.1)) S.proof, S.path⟩ ∧ Fr (XP s mb prv) w w' ∧ TFr w w' := by
  obtain ⟨i0, hi0, hz0, hz1, hz2⟩ := info_parts Tryz.infoStepF
  have HVO : Hid (VarsAll vs) := hva
  have HSB : Hid (SkB W s r mb sv pv vs pt) := hB
  have HPL : Hid (∀ k, (proveF vs ((T.take k).map (·.1)) S.proof).length ≤ 7500) := fun k => by
    have := prove_len vs ((T.take k).map (·.1)) S.proof
    rw [List.length_map, List.length_take] at this
    omega
  have HALL : Hid ((T.take T.length).map (·.1) = T.map (·.1)) := by show _ = _; rw [List.take_length]
  have HI : Hid (PvI W w s r mb sv pv cv prv pav vs S base stv T 0 w prv L) := by
    refine ⟨hD, hst, fun g hg he => ?_, Fr.refl _ _, Or.inl rfl, hpb, TFr.refl _⟩
    have := hqb g hg
    have := (hst.1.lt g he).1
    omega
  obtain ⟨asv, csv, hsv⟩ : ∃ a c, sv = .slice a vs.length c := by obtain ⟨a, c, h, _⟩ := (hB.keep w hD.fr).1; exact ⟨a, c, h⟩
  obtain ⟨ast, cst, rfl⟩ := own_form hst.1
  have hTm : T.length ≤ 1500 := hT
  have HBA : Hid (W.heap.size ≤ base) := hbase
  subst hsv
  clear hD hst hva hB hpb hqb hT hbase
  go_enter Tryz.func194, Tryz.ntmps194
  go_wp2_with fail
  go_loopw [11] (fun i wr => ∃ (k : Nat) (prv' : Value) (L' : List SV), k ≤ T.length ∧ i = .int .i64 k ∧ PvI W w s r mb (.slice asv vs.length csv) pv cv prv pav vs S base (.slice ast T.length cst) T k wr prv' L') (fun i _ => T.length - (intOf i).toNat)
  case atStart => exact ⟨0, prv, L, by omega, rfl, HI.out⟩
  case round =>
    obtain ⟨k, prv', L', hk, rfl, hI⟩ := hrel
    have HJ : Hid (PvI W w s r mb (.slice asv vs.length csv) pv cv prv pav vs S base (.slice ast T.length cst) T k wr prv' L') := hI
    clear hI HI
    by_cases hlt : k < T.length
    · obtain ⟨x, hx⟩ : ∃ x, T[k]? = some x := ⟨T[k], by simp [hlt]⟩
      obtain ⟨b, off, ha, hbl, c0, c1, c2⟩ := st_cell HJ.out.st k x hx
      subst ha
      obtain ⟨⟨xk, xc, xcl⟩, xv⟩ := x
      have HXL : Hid (LOwn base wr xv xcl) := HJ.out.st.2 _ (List.mem_of_getElem? hx)
      obtain ⟨axv, cxv, rfl⟩ := own_form (show wr.ownsRow _ _ _ _ _ _ from HXL.out)
      simp only at c0 c1 c2
      have HP1 : Hid (proveF vs ((T.take (k + 1)).map (·.1)) S.proof = (if ((proveF vs ((T.take k).map (·.1)) S.proof).map fun x => heldP vs x.cla).contains (heldP vs xcl) then proveF vs ((T.take k).map (·.1)) S.proof else proveF vs ((T.take k).map (·.1)) S.proof ++ [⟨xk, xc, xcl⟩])) := by
        show _ = _
        rw [List.take_add_one, hx, List.map_append]
        exact prove_snoc vs _ _ _
      have hpl := HPL.out k
      clear hx
      go_wp2_with fail
      obtain ⟨Y, hY⟩ : ∃ Y, wr.alloc (.cells #[.int .i64 xk, .int .i64 xc, .slice axv xcl.length cxv] 93) = Y := ⟨_, rfl⟩
      rw [hY]
      have hBY : Below wr.heap.size wr Y := by rw [← hY]; exact below_alloc _ _
      have HJY : Hid (PvI W w s r mb (.slice asv vs.length csv) pv cv prv pav vs S base (.slice (some ⟨b, off, none⟩) T.length cst) T k Y prv' L') := HJ.out.below hBY
      have HXY : Hid (LOwn base Y (.slice axv xcl.length cxv) xcl) := own_below (show wr.ownsRow _ _ _ _ _ _ from HXL.out) hBY
      obtain ⟨q, hq⟩ : ∃ q, wr.heap.size = q := ⟨_, rfl⟩
      have d0 : Y.cell? ⟨q, 0, none⟩ = some (.int .i64 xk) := by rw [← hY, ← hq]; simp
      have d1 : Y.cell? ⟨q, 1, none⟩ = some (.int .i64 xc) := by rw [← hY, ← hq]; simp
      have d2 : Y.cell? ⟨q, 2, none⟩ = some (.slice axv xcl.length cxv) := by rw [← hY, ← hq]; simp
      have dl : q < Y.heap.size := by rw [← hY, ← hq]; simp
      rw [hq]
      have HQW : Hid (W.heap.size ≤ q) := by rw [← hq]; exact HJ.out.sk.fr.size
      have HJQ : Hid (∀ g, prv'.ownBlock = some g → g < q) := fun g hg => by rw [← hq]; exact (HJ.out.sk.prf.1.lt g hg).2
      obtain ⟨s0, s1, s2, s3, s4, s5, s6⟩ := HJY.out.sk.cells
      obtain ⟨h, hh⟩ : ∃ h, heldP vs xcl = h := ⟨_, rfl⟩
      have HH36 : Hid (h < 2 ^ 36) := by rw [← hh]; exact of_lt vs HVO.out.1 _
      rw [hh] at HP1
      have HHE : Hid (∀ Z, Below Y.heap.size Y Z → Calls Tryz.prog 128 #[.slice asv vs.length csv, .slice axv xcl.length cxv] Z fun e w' => e = .returned (.int .u64 (h : Int)) ∧ Below Z.heap.size Z w') := fun Z hZ => by
        rw [← hh]
        exact held_any vs HVO.out xcl _ _ Z ((HSB.out.keep _ ((HJY.out.below hZ).sk.fr)).1) (LOwn.arg (own_below (show Y.ownsRow _ _ _ _ _ _ from HXY.out) hZ))
      have HHH : Hid (heldP vs xcl = h) := hh
      clear hh hY hBY HJ HXL c0 c1 c2 hbl hq
      go_region_law
        (first
          | (rw [if_pos (by rfl)]; go_simp; go_at_call 128; refine (HHE.out _ (Below.refl _ _).drew).mono ?_; rintro e w3 ⟨rfl, hb3⟩; have hB3 : Below Y.heap.size Y w3 := (Below.refl _ _).drew.trans hb3; dsimp only))
      all_goals
        have HJ3 : Hid (PvI W w s r mb (.slice asv vs.length csv) pv cv prv pav vs S base (.slice (some ⟨b, off, none⟩) T.length cst) T k w3 prv' L') := HJY.out.below hB3
        have HX3 : Hid (LOwn base w3 (.slice axv xcl.length cxv) xcl) := own_below (show Y.ownsRow _ _ _ _ _ _ from HXY.out) hB3
        have e0 := (hB3.cell (p := ⟨q, 0, none⟩) dl).trans d0
        have e1 := (hB3.cell (p := ⟨q, 1, none⟩) dl).trans d1
        have e2 := (hB3.cell (p := ⟨q, 2, none⟩) dl).trans d2
        have el : q < w3.heap.size := Nat.lt_of_lt_of_le dl hB3.size
        have hkey := key_part h HH36.out
        clear d0 d1 d2 dl s0 s1 s2 s3 s4 s5 s6 hb3 hB3 HJY HXY HHE
        obtain ⟨s0, s1, s2, s3, s4, s5, s6⟩ := HJ3.out.sk.cells
        have hmap := HJ3.out.sk.map
        obtain ⟨P, hP⟩ : ∃ P, proveF vs ((T.take k).map (·.1)) S.proof = P := ⟨_, rfl⟩
        rw [hP] at HP1 hmap hpl
        cases hc : (P.map fun x => heldP vs x.cla).contains h
        · rw [hc] at HP1
          have hh : Maps.has (setU (H := Unit) (P.map fun x => heldP vs x.cla)) (.int .u64 (h : Int)) = false := by rw [has_setU]; exact hc
          clear hc
          go_wp2_with (first
            | (at_lookup; refine wpList_lookup_own_unit _ rfl _ _ 118 rfl 183 211 Tryz.partKey Tryz.underThere (Tryz.zeroUnit _) mb _ _ rfl hmap _ _ rfl hkey ?_)
            | (at_mapUpdate; refine wpList_mapUpdate_own _ rfl _ _ _ 118 rfl 183 211 Tryz.partKey Tryz.underThere (unitElem (H := Unit)) mb _ _ rfl (hmap.alloc _) (by unfold maxLen; rw [List.length_map]; omega) _ _ _ rfl rfl hkey _ [] unitElem_mk ?_; intro w5 hown5 hg5)
            | fail)
          have hsk := HJ3.out.sk
          rw [hP] at hsk
          have HK5 : Hid (SkD W w5 s r mb (.slice asv vs.length csv) pv cv prv' pav L' ((P.map fun x => heldP vs x.cla) ++ [h]) ⟨S.cs, S.fuel, P, S.path⟩) := (hsk.below (below_alloc _ _)).key h _ rfl hg5 hown5
          have hmlt : mb < w3.heap.size := hmap.lt
          have hqm : some q ≠ some mb := fun he => by
            have h1 := HSB.out.mlt
            have h2 := HQW.out
            have := Option.some.inj he
            omega
          have f0 : w5.cell? ⟨q, 0, none⟩ = some (.int .i64 xk) := hg5.cell (((below_alloc _ _).cell (p := ⟨q, 0, none⟩) el).trans e0) hqm
          have f1 : w5.cell? ⟨q, 1, none⟩ = some (.int .i64 xc) := hg5.cell (((below_alloc _ _).cell (p := ⟨q, 1, none⟩) el).trans e1) hqm
          have f2 : w5.cell? ⟨q, 2, none⟩ = some (.slice axv xcl.length cxv) := hg5.cell (((below_alloc _ _).cell (p := ⟨q, 2, none⟩) el).trans e2) hqm
          have fl : q < w5.heap.size := by have := hg5.size; simp at this; omega
          have km : ∀ {B : Nat} {e : TypeId} {n1 n2 : Nat} {v : Value} {xs : List Value}, w3.ownsRow B e n1 v n2 xs → w5.ownsRow B e n1 v n2 xs := fun ho => (ho.alloc (.cells #[] 211)).kept hg5 (Or.inr (own_not_map (ho.alloc (.cells #[] 211)) (hmap.alloc (.cells #[] 211))))
          have HX5 : Hid (LOwn base w5 (.slice axv xcl.length cxv) xcl) := km HX3.out
          have HT5 : Hid (StOwn base w5 (.slice (some ⟨b, off, none⟩) T.length cst) T) := ⟨km HJ3.out.st.1, fun y hy => km (HJ3.out.st.2 y hy)⟩
          have HF5 : Hid (Fr (XP s mb prv) w w5) := (HJ3.out.fr.alloc _).grown hg5 (fun k hk => Or.inl (Or.inr (Or.inl (Option.some.inj hk).symm)))
          have HTF5 : Hid (TFr w w5) := (HJ3.out.tf.trans (TFr.below (below_alloc _ _))).trans (TFr.map (hmap.alloc _) hg5)
          have HAP : Hid (∀ g, prv'.ownBlock = some g → (Value.slice (some ⟨b, off, none⟩) T.length cst).ownBlock ≠ some g) := HJ3.out.ap
          have HHQ : Hid (prv'.ownBlock = prv.ownBlock ∨ ∀ g, prv'.ownBlock = some g → w.heap.size ≤ g) := HJ3.out.hq
          have HPB : Hid (∀ g, pav.ownBlock = some g → g < base) := HJ3.out.pb
          have hLP : L'.length ≤ 7500 := by have h9 := hsk.prfE; simp only at h9; rw [← h9, List.length_map] at hpl; exact hpl
          clear hg5 hown5 hmap km hsk hkey hh s0 s1 s2 s3 s4 s5 s6 e0 e1 e2 el HJ3 HX3 hqm hmlt
          obtain ⟨apr, cpr, rfl⟩ := own_form HK5.out.prf.1
          obtain ⟨s0, s1, s2, s3, s4, s5, s6⟩ := HK5.out.cells
          have hWs : W.heap.size ≤ w5.heap.size := HK5.out.fr.size
          have hop : w5.ownsRow W.heap.size 93 3 (.slice apr L'.length cpr) L'.length (L'.map stepCs).flatten := HK5.out.prf.1
          go_wp2_with fail
          go_region_law
            (first
              | (rw [if_pos (by rfl)]; refine wp_append_own_at _ _ _ 27 rfl W.heap.size 93 i0 _ 3 40 Tryz.underStepsF hi0 hz0 hz1 hz2 rfl (by decide) _ _ _ rfl (hop.drew.alloc _) ⟨w5.heap.size, 0, none⟩ 1 1 (stepCs (⟨xk, xc, xcl⟩, .slice axv xcl.length cxv)) rfl rfl (step_laid w5.drew (⟨xk, xc, xcl⟩, .slice axv xcl.length cxv)) (by intro u hu; simp [stepCs] at hu; rcases hu with rfl | rfl | rfl <;> rfl) ?_ ?_ ?_ ?_; (unfold maxLen; omega); omega; (simp; omega); intro v7 w7 hown7 hg7 hat7; obtain ⟨a7, c7, hv7⟩ := own_form hown7; subst hv7
                 have hbl7 := blk_grown (HK5.out.below ((Below.refl _ _).drew.alloc (Nat.le_refl _) _)).blkS hg7 (hop.drew.alloc _) (by decide)
                 have t3 : w7.cell? ⟨s, 3, none⟩ = some (.slice apr L'.length cpr) := blk9 hbl7 3 _ rfl
                 have z3 : w7.frozen? ⟨s, 3, none⟩ = false := frz9 hbl7 3
                 have l3 : s < w7.heap.size := (Array.getElem?_eq_some_iff.1 hbl7).1))
          all_goals
            have HJ4 : Hid (PvI W w s r mb (.slice asv vs.length csv) pv cv prv pav vs S base (.slice (some ⟨b, off, none⟩) T.length cst) T (k + 1) (w7.setCell ⟨s, 3, none⟩ (.slice a7 (L'.length + 1) c7)) (.slice a7 (L'.length + 1) c7) (L' ++ [(⟨xk, xc, xcl⟩, .slice axv xcl.length cxv)])) := by
              have hb5 : Below w5.heap.size w5 (w5.drew.alloc (.cells #[.int .i64 xk, .int .i64 xc, .slice axv xcl.length cxv] 93)) := (Below.refl _ _).drew.alloc (Nat.le_refl _) _
              have h2 : proveF vs ((T.take (k + 1)).map (·.1)) S.proof = P ++ [⟨xk, xc, xcl⟩] := by rw [HP1.out]; rfl
              have hx1 : LOwn base (w5.drew.alloc (.cells #[.int .i64 xk, .int .i64 xc, .slice axv xcl.length cxv] 93)) (.slice axv xcl.length cxv) xcl := own_below (show w5.ownsRow _ _ _ _ _ _ from HX5.out) hb5
              have hpush := HK5.out.push (x := (⟨xk, xc, xcl⟩, .slice axv xcl.length cxv)) hb5 (own_lower HBA.out hx1) (fun g hg he => by
                have := HPB.out g he
                have := (World.ownsRow.lt (show w5.ownsRow _ _ _ _ _ _ from HX5.out) g hg).1
                omega) hg7 rfl hown7
              have hT7 : StOwn base w7 (.slice (some ⟨b, off, none⟩) T.length cst) T := by
                have hT6 := HT5.out.below hb5
                refine ⟨hT6.1.kept hg7 ?_, fun y hy => own_grown (hT6.2 y hy) hg7 (hop.drew.alloc _) (by decide)⟩
                cases hpo : (Value.slice (some ⟨b, off, none⟩) T.length cst).ownBlock with
                | none => exact Or.inl rfl
                | some g => exact Or.inr fun he => HAP.out g he.symm hpo
              refine ⟨?_, hT7.set hbl7 (by decide) (by decide) 3 _, fun g hg he => ?_, ?_, ?_, HPB.out, ((HTF5.out.trans (TFr.below hb5)).trans (TFr.grown (hop.drew.alloc _) hg7 tno_step)).trans (TFr.set hbl7 tno_sek 3 _)⟩
              · rw [h2, List.map_append]
                simp only [List.map_cons, List.map_nil, HHH.out]
                exact hpush
              · rcases hat7 with hat | hat
                · exact HAP.out g (hat.symm.trans hg) he
                · rw [hat] at hg
                  have := (HT5.out.1.lt g he).2
                  have := Option.some.inj hg
                  simp at this
                  omega
              · refine ((HF5.out.trans (Fr.below hb5)).grown hg7 (fun k hk => ?_)).setX (p := ⟨s, 3, none⟩) (Or.inl rfl) _
                rcases HHQ.out with hq | hq
                · exact Or.inl (Or.inr (Or.inr (hq.symm.trans hk)))
                · exact Or.inr (hq k hk)
              · rcases hat7 with hat | hat
                · rcases HHQ.out with hq | hq
                  · exact Or.inl (hat.trans hq)
                  · exact Or.inr fun g hg => hq g (hat.symm.trans hg)
                · refine Or.inr fun g hg => ?_
                  rw [hat] at hg
                  have := HF5.out.size
                  have := Option.some.inj hg
                  simp at this
                  omega
            go_wp2
            go_roundw
            case rel => exact ⟨k + 1, _, _, by omega, by go_num, HJ4.out⟩
            case measure => simp [intOf]; omega
        · rw [hc] at HP1
          have hh : Maps.has (setU (H := Unit) (P.map fun x => heldP vs x.cla)) (.int .u64 (h : Int)) = true := by rw [has_setU]; exact hc
          clear hc
          go_wp2_with (first
            | (at_lookup; refine wpList_lookup_own_unit _ rfl _ _ 118 rfl 183 211 Tryz.partKey Tryz.underThere (Tryz.zeroUnit _) mb _ _ rfl hmap _ _ rfl hkey ?_)
            | fail)
          have HJ4 : Hid (PvI W w s r mb (.slice asv vs.length csv) pv cv prv pav vs S base (.slice (some ⟨b, off, none⟩) T.length cst) T (k + 1) (w3.alloc (.cells #[] 211)) prv' L') := by
            have h1 := HJ3.out.below (below_alloc w3 (.cells #[] 211))
            have h2 : proveF vs ((T.take (k + 1)).map (·.1)) S.proof = proveF vs ((T.take k).map (·.1)) S.proof := by rw [HP1.out, hP]; rfl
            refine ⟨?_, h1.st, h1.ap, h1.fr, h1.hq, h1.pb, h1.tf⟩
            rw [h2]
            exact h1.sk
          go_roundw
          case rel => exact ⟨k + 1, _, _, by omega, by go_num, HJ4.out⟩
          case measure => simp [intOf]; omega
    · have hkt : k = T.length := by omega
      subst hkt
      have HF := HJ.out.sk
      rw [HALL.out] at HF
      have HFR := HJ.out.fr
      have HTR := HJ.out.tf
      go_wp2
      go_end0
      exact ⟨rfl, _, _, HF, HFR, HTR⟩
end Go.Proofs.YtdjbejlbmaiocagGreatDoor
/-
  WALKS: package seek: fewest; slices.Index of literals.
-/
namespace Go.Proofs.YtdjbejlbmaiocagGreatDoor
open Go.RowKit

theorem fewF_step (s : Sto) (k : Nat) (x : List Int) (b : Int) (h : s[k]? = some x) : fewF s k (s.drop k) b = fewF s (k + 1) (s.drop (k + 1)) (if 1 < x.length ∧ (b < 0 ∨ x.length < (s.getD b.toNat []).length) then (k : Int) else b) := by
  have hk := (List.getElem?_eq_some_iff.1 h).1
  have : s[k] = x := by rw [List.getElem?_eq_getElem hk] at h; exact Option.some.inj h
  rw [List.drop_eq_getElem_cons hk, this]
  rfl

set_option maxHeartbeats 1600000 in
set_option maxRecDepth 100000 in
theorem fewest_any (s : Sto) (hs : s.length ≤ 6) (v : Value) (w : World) (hv : RArg w v s) :
    Calls Tryz.prog 135 #[v] w fun e w' => e = .returned (.int .i64 (fewestP s)) ∧ w' = w := by
  obtain ⟨a, c, rfl, hl, hr⟩ := hv
  have HV : Hid (∀ (i : Nat) (r : List Int), s[i]? = some r → ∃ b off x, a = some ⟨b, off, none⟩ ∧ b < w.heap.size ∧ w.cell? ⟨b, off + i, none⟩ = some x ∧ IArg w x r) := hr
  unfold maxLen at hl
  obtain ⟨hl1, hl⟩ := hl
  obtain ⟨R, hR⟩ : ∃ R, fewestP s = R := ⟨_, rfl⟩
  rw [hR]
  have HR : Hid (fewF s 0 (s.drop 0) (-1) = R) := hR
  clear hr hR
  go_enter Tryz.func135, Tryz.ntmps135
  go_wp2_with fail
  go_loopw [3, 8] (fun bv i wr => ∃ (k : Nat) (b : Int), k ≤ s.length ∧ i = .int .i64 k ∧ bv = .int .i64 b ∧ -1 ≤ b ∧ b < (s.length : Int) ∧ Hid (fewF s k (s.drop k) b = R) ∧ wr = w) (fun _ i _ => s.length - (intOf i).toNat)
  case atStart => exact ⟨0, -1, by omega, rfl, rfl, by omega, by omega, HR, rfl⟩
  case round =>
    obtain ⟨k, b, hk, rfl, rfl, hb0, hb1, hf, rfl⟩ := hrel
    by_cases hlt : k < s.length
    · obtain ⟨x, hx⟩ : ∃ x, s[k]? = some x := ⟨s[k], by simp [hlt]⟩
      have HF := hf.out
      rw [fewF_step s k x b hx] at HF
      obtain ⟨bb, off, y, hax, hlb, hc, a5, c5, rfl, ⟨hm5, hm6⟩, _⟩ := HV.out k x hx
      subst hax
      unfold maxLen at hm6
      by_cases h1 : 1 < x.length
      · have h1' : (1 : Int) < (x.length : Int) := by omega
        by_cases h2 : b < 0
        · rw [if_pos ⟨h1, Or.inl h2⟩] at HF
          have HF2 : Hid (fewF s (k + 1) (s.drop (k + 1)) (k : Int) = R) := HF
          clear HF hf hx
          go_wp2
          go_roundw
          case rel => exact ⟨k + 1, (k : Int), by omega, by go_num, rfl, by omega, by omega, HF2, trivial⟩
          case measure => simp [intOf]; omega
        · obtain ⟨bn, rfl⟩ : ∃ bn : Nat, b = (bn : Int) := ⟨b.toNat, by omega⟩
          have hbn : bn < s.length := by omega
          obtain ⟨z, hz⟩ : ∃ z, s[bn]? = some z := ⟨s[bn], by simp [hbn]⟩
          obtain ⟨bb2, off2, y2, hax2, hlb2, hc2, a6, c6, rfl, ⟨hn5, hn6⟩, _⟩ := HV.out bn z hz
          cases hax2
          unfold maxLen at hn6
          have hgz : s.getD ((bn : Int)).toNat [] = z := by rw [Int.toNat_natCast, List.getD_eq_getElem?_getD, hz]; rfl
          rw [hgz] at HF
          by_cases h3 : x.length < z.length
          · rw [if_pos ⟨h1, Or.inr h3⟩] at HF
            have h3' : (x.length : Int) < (z.length : Int) := by omega
            have HF2 : Hid (fewF s (k + 1) (s.drop (k + 1)) (k : Int) = R) := HF
            clear HF hf hx hz hgz
            go_wp2
            go_roundw
            case rel => exact ⟨k + 1, (k : Int), by omega, by go_num, rfl, by omega, by omega, HF2, trivial⟩
            case measure => simp [intOf]; omega
          · rw [if_neg (fun h => by rcases h.2 with h | h <;> omega)] at HF
            have h3' : ¬ (x.length : Int) < (z.length : Int) := by omega
            have HF2 : Hid (fewF s (k + 1) (s.drop (k + 1)) (bn : Int) = R) := HF
            clear HF hf hx hz hgz
            go_wp2
            go_roundw
            case rel => exact ⟨k + 1, (bn : Int), by omega, by go_num, rfl, by omega, by omega, HF2, trivial⟩
            case measure => simp [intOf]; omega
      · have h1' : ¬ (1 : Int) < (x.length : Int) := by omega
        rw [if_neg (fun h => h1 h.1)] at HF
        have HF2 : Hid (fewF s (k + 1) (s.drop (k + 1)) b = R) := HF
        clear HF hf hx
        go_wp2
        go_roundw
        case rel => exact ⟨k + 1, b, by omega, by go_num, rfl, by omega, by omega, HF2, trivial⟩
        case measure => simp [intOf]; omega
    · have HF2 : Hid (b = R) := by
        have := hf.out
        rw [List.drop_of_length_le (by omega)] at this
        exact this
      clear hf
      go_wp2
      go_ret
      exact ⟨ret_int HF2.out, rfl⟩

theorem idx_step (l : MLit) (c : Cla) (k : Nat) (x : MLit) (h : c[k]? = some x) : idxL l (c.drop k) = if sameL l x then 0 else idxL l (c.drop (k + 1)) + 1 := by
  have hk := (List.getElem?_eq_some_iff.1 h).1
  have : c[k] = x := by rw [List.getElem?_eq_getElem hk] at h; exact Option.some.inj h
  rw [List.drop_eq_getElem_cons hk, this]
  rfl

set_option maxHeartbeats 1600000 in
set_option maxRecDepth 100000 in
theorem lindex_any (l : MLit) (c : Cla) (hm : l ∈ c) (hlen : c.length ≤ 900) (v : Value) (w : World) (hv : LArg w v c) :
    Calls Tryz.prog 196 #[v, .agg #[.int .i64 l.var, .int .i64 l.op, .int .i64 l.n]] w fun e w' => e = .returned (.int .i64 (idxL l c : Nat)) ∧ Below w.heap.size w w' := by
  obtain ⟨a, cc, rfl, hl, hr⟩ := hv
  have HV : Hid (∀ (i : Nat) (t : MLit), c[i]? = some t → ∃ b off, a = some ⟨b, off, none⟩ ∧ b < w.heap.size ∧
    w.cell? ⟨b, off + i * 3, none⟩ = some (.int .i64 t.var) ∧ w.cell? ⟨b, off + i * 3 + 1, none⟩ = some (.int .i64 t.op) ∧ w.cell? ⟨b, off + i * 3 + 2, none⟩ = some (.int .i64 t.n)) := hr
  have HI : Hid (idxL l c < c.length) := idx_lt l c hm
  unfold maxLen at hl
  obtain ⟨hl1, hl⟩ := hl
  obtain ⟨R, hR⟩ : ∃ R, idxL l c = R := ⟨_, rfl⟩
  rw [hR] at HI ⊢
  have HR : Hid (0 + idxL l (c.drop 0) = R) := by show 0 + idxL l (c.drop 0) = R; rw [List.drop_zero, Nat.zero_add]; exact hR
  clear hr hR hm
  go_enter Tryz.func196, Tryz.ntmps196
  go_wp2_with fail
  go_loopw [8] (fun i wr => ∃ k : Nat, k ≤ c.length ∧ i = .int .i64 k ∧ Hid (k + idxL l (c.drop k) = R) ∧ Below (w.heap.size + 1) (w.alloc (.cells #[.int .i64 l.var, .int .i64 l.op, .int .i64 l.n] 88)) wr) (fun i _ => c.length - (intOf i).toNat)
  case atStart => exact ⟨0, by omega, rfl, HR, Below.refl _ _⟩
  case round =>
    obtain ⟨k, hk, rfl, hf, hbw⟩ := hrel
    have hbw2 : Below w.heap.size w wr := (below_alloc _ _).trans (hbw.mono (by omega))
    have g0 : wr.cell? ⟨w.heap.size, 0, none⟩ = some (.int .i64 l.var) := (hbw.cell (p := ⟨w.heap.size, 0, none⟩) (by simp)).trans (by simp)
    have g1 : wr.cell? ⟨w.heap.size, 1, none⟩ = some (.int .i64 l.op) := (hbw.cell (p := ⟨w.heap.size, 1, none⟩) (by simp)).trans (by simp)
    have g2 : wr.cell? ⟨w.heap.size, 2, none⟩ = some (.int .i64 l.n) := (hbw.cell (p := ⟨w.heap.size, 2, none⟩) (by simp)).trans (by simp)
    have HB : Hid (Below w.heap.size w wr) := hbw2
    have HBW : Hid (Below (w.heap.size + 1) (w.alloc (.cells #[.int .i64 l.var, .int .i64 l.op, .int .i64 l.n] 88)) wr) := hbw
    clear hbw hbw2
    by_cases hlt : k < c.length
    · obtain ⟨x, hx⟩ : ∃ x, c[k]? = some x := ⟨c[k], by simp [hlt]⟩
      have HF := hf.out
      rw [idx_step l c k x hx] at HF
      obtain ⟨bb, off, hax, hlb, c0, c1, c2⟩ := HV.out k x hx
      subst hax
      have e0 := (HB.out.cell (p := ⟨bb, off + k * 3, none⟩) hlb).trans c0
      have e1 := (HB.out.cell (p := ⟨bb, off + k * 3 + 1, none⟩) hlb).trans c1
      have e2 := (HB.out.cell (p := ⟨bb, off + k * 3 + 2, none⟩) hlb).trans c2
      clear c0 c1 c2
      by_cases hs : sameL l x = true
      · rw [if_pos hs] at HF
        have HF2 : Hid (k = R) := by show k = R; omega
        obtain rfl := (same_eq l x).1 hs
        clear HF hf hx hs
        go_wp2_with fail
        go_quiet (fail)
        go_wp2_with fail
        go_ret
        exact ⟨ret_int (by rw [HF2.out]), below_drewN HB.out _⟩
      · rw [if_neg hs] at HF
        have HF2 : Hid (k + 1 + idxL l (c.drop (k + 1)) = R) := by show _ = R; omega
        clear HF hf hx
        obtain ⟨lv, lo, ln⟩ := l
        obtain ⟨xv, xo, xn⟩ := x
        simp only at g0 g1 g2 e0 e1 e2 HF2 HR
        by_cases q1 : lv = xv
        · by_cases q2 : lo = xo
          · have q3 : ¬ ln = xn := fun h => hs ((same_eq _ _).2 (by rw [q1, q2, h]))
            subst q1 q2
            have q3' : (ln == xn) = false := by simpa using q3
            clear hs
            go_wp2_with fail
            go_quiet (fail)
            go_wp2
            go_roundw
            case rel => exact ⟨k + 1, by omega, by go_num, HF2, below_drewN HBW.out _⟩
            case measure => simp [intOf]; omega
          · have q2' : (lo == xo) = false := by simpa using q2
            subst q1
            clear hs
            go_wp2_with fail
            go_quiet (fail)
            go_wp2
            go_roundw
            case rel => exact ⟨k + 1, by omega, by go_num, HF2, below_drewN HBW.out _⟩
            case measure => simp [intOf]; omega
        · have q1' : (lv == xv) = false := by simpa using q1
          clear hs
          go_wp2_with fail
          go_quiet (fail)
          go_wp2
          go_roundw
          case rel => exact ⟨k + 1, by omega, by go_num, HF2, below_drewN HBW.out _⟩
          case measure => simp [intOf]; omega
    · exfalso
      have := hf.out
      have := HI.out
      omega
end Go.Proofs.YtdjbejlbmaiocagGreatDoor
