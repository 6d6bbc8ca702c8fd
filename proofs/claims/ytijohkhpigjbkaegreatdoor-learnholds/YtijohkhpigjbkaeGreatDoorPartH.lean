/-
  PART 8 of what the proof leans on (FolI, FolJ, FolE, FixL, FauA, FauB, FauC, LitA, StoE, LitB, LeaA, LeaB, LeaC, TwoPlain, TwoPts, LeaP, RefI, RefL, SifB).
-/
import Derived.Test.YtijohkhpigjbkaeGreatDoorPartG
import Derived.KernelRfl
import Derived.Deep.QuietTactic
import Derived.BigQuiet
import Derived.Deep.RegionHeld3
/-
  WALKS: package follow: Steps.
-/
namespace Go.Proofs.YtijohkhpigjbkaeGreatDoor
open Go.RowKit

theorem PArg.lt36 {w : World} {v : Value} {l : List Nat} (h : PArg w v l) : ∀ z ∈ l, z < 2 ^ 36 := by
  intro z hz
  obtain ⟨a, c, _, _, hr⟩ := h
  obtain ⟨i, hi⟩ := List.mem_iff_getElem?.1 hz
  exact (hr i z hi).1
set_option maxHeartbeats 3200000 in
set_option maxRecDepth 100000 in
theorem senough_any (vs : List MVar) (hva : VarsAll vs) (hn1 : 1 ≤ vs.length) (pt : List (List Nat)) (cs : List Nat) (hcs : cs.length ≤ 100000) (h : Nat) (hh : h < 2 ^ 36) (r : Nat) (sv pv cv : Value) (c : List RV) (hcl : c.length ≤ 5000) (hc36 : ∀ x ∈ c, x.1.2 < 2 ^ 36) (hsl : ∀ x ∈ c, IsSl x) (v : Value) (b1 bh : Nat) (w : World) (hR : RulesAt w r sv pv cv vs pt cs) (hv : RvArg w v c)
    (h1 : w.cell? ⟨b1, 0, none⟩ = some (.pointer (some ⟨r, 0, none⟩))) (h2 : w.cell? ⟨bh, 0, none⟩ = some (.int .u64 h)) (hl1 : b1 < w.heap.size) (hl2 : bh < w.heap.size) :
    Calls Tryz.prog 132 #[v, .pointer (some ⟨b1, 0, none⟩), .pointer (some ⟨bh, 0, none⟩)] w fun e w' => e = .returned (.bool (enoughP vs cs h (c.map (·.1)))) ∧ Below w.heap.size w w' := by
  obtain ⟨i0, hi0, hz0, hz1, hz2⟩ := info_parts Tryz.infoPart
  have HR : Hid (∀ Y, Below w.heap.size w Y → RulesAt Y r sv pv cv vs pt cs) := fun Y hY => RulesAt.below hY hR
  have HV : Hid (∀ Y, Below w.heap.size w Y → RvArg Y v c) := fun Y hY => RvArg.below hY hv
  have HVO : Hid (VarsAll vs) := hva
  have H1 : Hid (1 ≤ vs.length) := hn1
  have HH : Hid (h < 2 ^ 36) := hh
  have HCS : Hid (cs.length ≤ 100000) := hcs
  have HC36 : Hid (∀ x ∈ c, x.1.2 < 2 ^ 36) := hc36
  have HCS36 : Hid (∀ z ∈ cs, z < 2 ^ 36) := PArg.lt36 hR.hc
  have HSL : Hid (∀ x ∈ c, IsSl x) := hsl
  have r2 := hR.c2
  have rl := hR.lt
  have r0' := hR.c0
  have HK1 : Hid (∀ Y, Below w.heap.size w Y → Y.cell? ⟨b1, 0, none⟩ = some (.pointer (some ⟨r, 0, none⟩)) ∧ Y.cell? ⟨bh, 0, none⟩ = some (.int .u64 h) ∧ Y.cell? ⟨r, 0, none⟩ = some sv ∧ b1 < Y.heap.size ∧ bh < Y.heap.size ∧ r < Y.heap.size) := fun Y hY =>
    ⟨(hY.cell (p := ⟨b1, 0, none⟩) hl1).trans h1, (hY.cell (p := ⟨bh, 0, none⟩) hl2).trans h2, (hY.cell (p := ⟨r, 0, none⟩) rl).trans r0', Nat.lt_of_lt_of_le hl1 hY.size, Nat.lt_of_lt_of_le hl2 hY.size, Nat.lt_of_lt_of_le rl hY.size⟩
  obtain ⟨B, hB⟩ : ∃ B, enoughP vs cs h (c.map (·.1)) = B := ⟨_, rfl⟩
  have HB : Hid (B = failsP vs (cs ++ c.map (·.1.2)) h) := by show _ = _; rw [← hB]; unfold enoughP; rw [List.map_map]; rfl
  rw [hB]
  obtain ⟨a1, c1, rfl, _, _⟩ := hR.hv
  obtain ⟨a2, c2, rfl, _, _⟩ := hR.hc
  obtain ⟨a3, c3, he3⟩ := rv_form hv
  subst he3
  clear hR hv hva hn1 hh hB hc36 hsl r0'
  go_enter Tryz.func132, Tryz.ntmps132
  go_wp2_with fail
  refine (clone_parts cs (by have := HCS.out; omega) _ _ (HR.out _ (Below.refl _ _)).hc).mono ?_
  rintro e w1 ⟨x, rfl, hx, hb1⟩
  have HX : Hid (w1.ownsRow w.heap.size 118 1 x cs.length (u64s cs)) := hx
  have HB1 : Hid (Below w.heap.size w w1) := hb1
  obtain ⟨ax, cx, rfl⟩ := own_form hx
  clear hx hb1 r2 rl h1 h2
  go_wp2_with fail
  go_loopw [5, 15] (fun o i wr => ∃ (k : Nat) (done : List Nat), k ≤ c.length ∧ i = .int .i64 k ∧ wr.ownsRow w.heap.size 118 1 o done.length (u64s done) ∧ Hid (done = cs ++ (c.take k).map (·.1.2)) ∧ Below w.heap.size w wr) (fun _ i _ => c.length - (intOf i).toNat)
  case atStart => exact ⟨0, cs, by omega, rfl, HX.out, by show _ = _; simp, HB1.out⟩
  case round =>
    obtain ⟨k, done, hk, rfl, hown, hdn, hbw⟩ := hrel
    have HOW : Hid (wr.ownsRow w.heap.size 118 1 u5 done.length (u64s done)) := hown
    have HBW : Hid (Below w.heap.size w wr) := hbw
    obtain ⟨ao, co, rfl⟩ := own_form hown
    have hdl : done.length ≤ 105000 := by rw [hdn.out, List.length_append, List.length_map, List.length_take]; have := HCS.out; omega
    clear hown hbw
    by_cases hlt : k < c.length
    · obtain ⟨t, ht⟩ : ∃ t, c[k]? = some t := ⟨c[k], by simp [hlt]⟩
      obtain ⟨a4, n4, c4, b4, o4, he4, hn4, hc41, hc42, ha4, hb4, q0, q1, q2, q3⟩ := reason_cells (HV.out _ HBW.out) k t ht
      injection he4 with he4 he5 he6
      rw [ha4] at he4
      subst he4
      obtain ⟨sa, ns, sc, hse⟩ := HSL.out t (List.mem_of_getElem? ht)
      rw [hse] at q2
      have HNX : Hid (done ++ [t.1.2] = cs ++ (c.take (k + 1)).map (·.1.2)) := by
        show _ = _
        rw [hdn.out, List.take_add_one, ht, List.map_append, ← List.append_assoc]; rfl
      have hcc : c.length ≤ c3 := by omega
      unfold maxLen at hc42
      have hcm : c3 ≤ 2 ^ 63 - 1 := by omega
      clear he5 he6 hc41 hc42 hn4 hse ha4 ht hdn
      obtain ⟨z, hz⟩ : ∃ z, t.1.2 = z := ⟨_, rfl⟩
      rw [hz] at q3 HNX
      have hbs := HBW.out.size
      have HBX : Hid (Below w.heap.size w (wr.alloc (.cells #[.int .i64 t.1.1.kind, .int .i64 t.1.1.con, .slice sa ns sc, .int .u64 (z : Int)] 171))) := HBW.out.alloc hbs _
      have HO1 : Hid ((wr.alloc (.cells #[.int .i64 t.1.1.kind, .int .i64 t.1.1.con, .slice sa ns sc, .int .u64 (z : Int)] 171)).ownsRow w.heap.size 118 1 (.slice ao done.length co) done.length (u64s done)) := HOW.out.alloc _
      clear hz
      go_upto_region 5 with (fail)
      obtain ⟨V, hV⟩ : ∃ V, wr.alloc (.cells #[.int .i64 t.1.1.kind, .int .i64 t.1.1.con, .slice sa ns sc, .int .u64 (z : Int)] 171) = V := ⟨_, rfl⟩
      have k3 : (wr.alloc (.cells #[.int .i64 t.1.1.kind, .int .i64 t.1.1.con, .slice sa ns sc, .int .u64 (z : Int)] 171)).cell? ⟨wr.heap.size, 3, none⟩ = some (.int .u64 (z : Int)) := World.cell?_alloc_at _ _ _ 3 (by simp)
      rw [hV] at HBX HO1 k3 ⊢
      clear hV q0 q1 q2 q3
      have hvs := HBX.out.size
      go_wp2_with (at_builtin; refine wpList_append_own _ rfl _ _ 122 rfl w.heap.size 118 i0 (.int .u64 0) 1 8 Tryz.underPart hi0 hz0 hz1 hz2 rfl (by decide) _ _ _ rfl (HO1.out.alloc _) ⟨V.heap.size, 0, none⟩ 1 1 [.int .u64 (z : Int)] rfl rfl (partD_laid V z) (by intro u hu; simp at hu; subst hu; rfl) ?c1 ?c2 ?c3 ?_)
      case c1 => unfold maxLen; omega
      case c2 => omega
      case c3 => simp; omega
      intro v6 w6 hown6 hg6 _
      have HO6 : Hid (w6.ownsRow w.heap.size 118 1 v6 (done ++ [z]).length (u64s (done ++ [z]))) := by
        show World.ownsRow _ _ _ _ _ _ _
        unfold u64s at *
        rw [List.length_append, List.map_append]; exact hown6
      have HB6 : Hid (Below w.heap.size w w6) := (HBX.out.alloc hvs _).grown hg6 (by simp; omega) (fun g hg => (HO1.out.lt g hg).1)
      clear hown6 hg6 k3
      go_wp2
      go_roundw
      case rel => exact ⟨k + 1, done ++ [z], by omega, by go_num, HO6.out, HNX, HB6.out⟩
      case measure => simp [intOf]; omega
    · have HFD : Hid (done = cs ++ c.map (·.1.2)) := by have h1 := hdn.out; rw [List.take_of_length_le (by omega)] at h1; exact h1
      have HPA : Hid (PArg wr (.slice ao done.length co) done) := own_parts HOW.out (by
        rw [HFD.out]
        intro z hz
        rcases List.mem_append.1 hz with h | h
        · exact HCS36.out z h
        · obtain ⟨x, hx, rfl⟩ := List.mem_map.1 h
          exact HC36.out x hx)
      obtain ⟨k1, k2, k3, m1, m2, m3⟩ := HK1.out _ HBW.out
      have HBF : Hid (B = failsP vs done h) := by show _ = _; rw [HB.out, HFD.out]
      have HFA : Hid (∀ Y, Below wr.heap.size wr Y → Calls Tryz.prog 89 #[.slice a1 (List.length vs) c1, .slice ao done.length co, .int .u64 (h : Int)] Y fun e w' => e = .returned (.bool B) ∧ Below Y.heap.size Y w') := fun Y hY => by
        rw [HBF.out]
        have hRY := HR.out Y (HBW.out.trans (hY.mono HBW.out.size))
        exact fails_any vs HVO.out H1.out done h HH.out _ _ Y hRY.hv (PArg.below hY HPA.out) hRY.tab
      clear hdn
      go_upto_region 7 with (fail)
      go_region_held3 (fun w' => Below wr.heap.size wr w' ∧ w'.cell? ⟨b1, 0, none⟩ = some (.pointer (some ⟨r, 0, none⟩)) ∧ w'.cell? ⟨bh, 0, none⟩ = some (.int .u64 h) ∧ w'.cell? ⟨r, 0, none⟩ = some (.slice a1 (List.length vs) c1))
        ((refine (fun (hB : Below wr.heap.size wr _) => ⟨hB, (hB.cell (p := ⟨b1, 0, none⟩) m1).trans k1, (hB.cell (p := ⟨bh, 0, none⟩) m2).trans k2, (hB.cell (p := ⟨r, 0, none⟩) m3).trans k3⟩ : Below wr.heap.size wr _ → _) ?_; first | exact (Below.refl _ _).drew | exact fen_call (by assumption) hbq))
        (first
          | (go_at_call 89; refine (HFA.out _ (show Below wr.heap.size wr _ ∧ _ by assumption).1).mono ?_; rintro e w3 ⟨rfl, hbq⟩; have hB3 := fen_call (by assumption) hbq))
      have HB3 : Hid (Below w.heap.size w w3) := HBW.out.trans (hB3.mono HBW.out.size)
      clear hbq hB3 k1 k2 k3
      go_wp2
      go_ret
      exact ⟨rfl, HB3.out⟩
theorem enters_enough (args : Array Value) (w' : World) : Sem.run Tryz.prog (callFunc 132 args) w' = .ok (.enter 132 args) w' := by
  simp [callFunc, go_sem, Tryz.func132, Tryz.f132]
end Go.Proofs.YtijohkhpigjbkaeGreatDoor
/-
  MEMORY: steps. WALK: package follow: Steps.
-/
namespace Go.Proofs.YtijohkhpigjbkaeGreatDoor
open Go.RowKit

theorem Tryz.infoStepF : (Tryz.prog.info? 65).map (fun i => (i.zero, i.size, i.bytes)) = some (some (.agg #[.int .i64 0, .int .i64 0, .slice none 0 0]), 3, 40) := by kernel_rfl
theorem Tryz.underStepsF : Tryz.prog.underlying 59 = some (.slice 65) := by kernel_rfl
/-- A step, and where its clause lies. -/
abbrev SV := MStep × Value
def stepCs (x : SV) : List Value := [.int .i64 x.1.kind, .int .i64 x.1.con, x.2]
/-- Steps in a row of one's own, each clause in one of its own. -/
def StOwn (base : Nat) (w : World) (v : Value) (L : List SV) : Prop := w.ownsRow base 65 3 v L.length (L.map stepCs).flatten ∧ ∀ x ∈ L, LOwn base w x.2 x.1.cla
theorem StOwn.below {base : Nat} {w w' : World} {v : Value} {L : List SV} (h : StOwn base w v L) (hb : Below w.heap.size w w') : StOwn base w' v L := ⟨own_below h.1 hb, fun x hx => own_below (h.2 x hx) hb⟩
theorem StOwn.mono {base base' : Nat} {w : World} {v : Value} {L : List SV} (h : StOwn base w v L) (hb : base' ≤ base) : StOwn base' w v L := ⟨World.ownsRow.mono h.1 hb, fun x hx => own_lower hb (h.2 x hx)⟩
theorem step_laid (w : World) (x : SV) : ∀ (j : Nat) (u : Value), (stepCs x)[j]? = some u → (w.alloc (.cells #[.int .i64 x.1.kind, .int .i64 x.1.con, x.2] 65)).cell? ((⟨w.heap.size, 0, none⟩ : Addr).add j) = some u := by
  intro j u hj
  match j, hj with
  | 0, hj => simp [stepCs] at hj; subst hj; simp [Addr.add]
  | 1, hj => simp [stepCs] at hj; subst hj; simp [Addr.add]
  | 2, hj => simp [stepCs] at hj; subst hj; simp [Addr.add]
theorem StOwn.push {base n : Nat} {w w' : World} {v v' : Value} {L : List SV} {x : SV} (h : StOwn base w v L) (hx : LOwn base w x.2 x.1.cla) (hg : w.grownBy w' v.ownBlock) (hn : n = L.length + 1) (ho : w'.ownsRow base 65 3 v' n ((L.map stepCs).flatten ++ stepCs x)) : StOwn base w' v' (L ++ [x]) := by
  refine ⟨?_, fun y hy => ?_⟩
  · rw [List.length_append, List.length_singleton, ← hn, List.map_append, List.flatten_append]
    simpa using ho
  · rcases List.mem_append.1 hy with h3 | h3
    · exact own_grown (h.2 y h3) hg h.1 (by decide)
    · rw [List.mem_singleton.1 h3]; exact own_grown hx hg h.1 (by decide)
theorem least_map {α β : Type} (f : α → β) (e : List β → Bool) : ∀ (k : Nat) (l : List α), (leastL (fun c => e (c.map f)) k l).map f = leastL e k (l.map f)
  | 0, l => rfl
  | k + 1, l => by
    rw [least_step, least_step, least_map f e k, erase_map]
    congr 1
    split <;> rfl

set_option maxHeartbeats 6400000 in
set_option maxRecDepth 100000 in
theorem rsteps_any (vs : List MVar) (hva : VarsAll vs) (hn1 : 1 ≤ vs.length) (pt : List (List Nat)) (cs : List Nat) (hcs : cs.length ≤ 100000) (cl : Cla) (hcl : cl.length ≤ 900) (r : Nat) (sv pv cv u : Value) (w : World) (hR : RulesAt w r sv pv cv vs pt cs) (hu : LArg w u cl) :
    Calls Tryz.prog 74 #[.pointer (some ⟨r, 0, none⟩), u] w fun e w' => ∃ v L, e = .returned v ∧ L.map (·.1) = stepsA vs cs pt cl ∧ StOwn w.heap.size w' v L ∧ L.length ≤ 1500 ∧ Below w.heap.size w w' := by
  obtain ⟨i0, hi0, hz0, hz1, hz2⟩ := info_parts Tryz.infoStepF
  have HR : Hid (∀ Y, Below w.heap.size w Y → RulesAt Y r sv pv cv vs pt cs) := fun Y hY => RulesAt.below hY hR
  have HU : Hid (∀ Y, Below w.heap.size w Y → LArg Y u cl) := fun Y hY => LArg.below hY hu
  have HVO : Hid (VarsAll vs) := hva
  have H1 : Hid (1 ≤ vs.length) := hn1
  have HCS : Hid (cs.length ≤ 100000) := hcs
  have HCL : Hid (cl.length ≤ 900) := hcl
  obtain ⟨h, hh⟩ : ∃ h, heldP vs cl = h := ⟨_, rfl⟩
  have HH : Hid (heldP vs cl = h) := hh
  have HH36 : Hid (h < 2 ^ 36) := by rw [← hh]; exact of_lt vs hva.1 _
  obtain ⟨ST, hST⟩ : ∃ ST, stepsA vs cs pt cl = ST := ⟨_, rfl⟩
  have HST : Hid (ST = (leastL (enoughP vs cs h) (reasonsP vs cs pt h).length (reasonsP vs cs pt h)).map (·.1) ++ [⟨2, 0, cl⟩]) := by show _ = _; rw [← hST, ← hh]; rfl
  rw [hST]
  have r0 := hR.c0
  have rl := hR.lt
  obtain ⟨a1, c1, rfl, _, _⟩ := hR.hv
  obtain ⟨a2, c2, rfl, _, _⟩ := hu
  clear hR hva hn1 hcs hcl hh hST
  go_enter Tryz.func74, Tryz.ntmps74
  go_wp2_with fail
  refine (held_any vs HVO.out cl _ _ _ (HR.out _ (below_alloc _ _)).hv (HU.out _ (below_alloc _ _))).mono ?_
  rintro e w1 ⟨rfl, hb1⟩
  rw [HH.out]
  have HB1 : Hid (Below w.heap.size w w1) := (below_alloc _ _).trans (hb1.mono (by simp))
  have HP1 : Hid (w1.cell? ⟨w.heap.size, 0, none⟩ = some (.pointer (some ⟨r, 0, none⟩))) := (hb1.cell (by simp)).trans (World.cell?_alloc_at _ _ _ 0 (by simp))
  have HS1 : Hid (w.heap.size < w1.heap.size) := by have := hb1.size; simp at this; show _ < _; omega
  clear hb1 r0 rl
  have k1 : (w1.alloc (.cells #[.int .u64 (h : Int)] 118)).cell? ⟨w.heap.size, 0, none⟩ = some (.pointer (some ⟨r, 0, none⟩)) := ((below_alloc w1 _).cell (p := ⟨w.heap.size, 0, none⟩) HS1.out).trans HP1.out
  have k2 : (w1.alloc (.cells #[.int .u64 (h : Int)] 118)).cell? ⟨w1.heap.size, 0, none⟩ = some (.int .u64 (h : Int)) := World.cell?_alloc_at _ _ _ 0 (by simp)
  have HBV : Hid (Below w.heap.size w (w1.alloc (.cells #[.int .u64 (h : Int)] 118))) := HB1.out.alloc HB1.out.size _
  have HLV : Hid (w1.heap.size < (w1.alloc (.cells #[.int .u64 (h : Int)] 118)).heap.size) := by show _ < _; simp
  obtain ⟨G, hG⟩ : ∃ G, w1.heap.size = G := ⟨_, rfl⟩
  obtain ⟨V, hV⟩ : ∃ V, w1.alloc (.cells #[.int .u64 (h : Int)] 118) = V := ⟨_, rfl⟩
  go_upto_region 4 with (fail)
  rw [hV] at HBV HLV
  rw [hG] at HLV HS1
  rw [hG, hV] at k2
  rw [hV] at k1
  have HK : Hid (∀ Y, Below V.heap.size V Y → Y.cell? ⟨w.heap.size, 0, none⟩ = some (.pointer (some ⟨r, 0, none⟩)) ∧ Y.cell? ⟨G, 0, none⟩ = some (.int .u64 (h : Int)) ∧ w.heap.size < Y.heap.size ∧ G < Y.heap.size) := fun Y hY => by
    have h1 := HS1.out
    have h2 := HLV.out
    have h3 := hY.size
    exact ⟨(hY.cell (p := ⟨w.heap.size, 0, none⟩) (by show w.heap.size < V.heap.size; omega)).trans k1, (hY.cell (p := ⟨G, 0, none⟩) h2).trans k2, by omega, by omega⟩
  clear hG hV HP1
  go_wp2_with fail
  refine (reasons_any vs HVO.out H1.out pt cs h HH36.out r _ pv cv _ (HR.out _ HBV.out)).mono ?_
  rintro e w2 ⟨v2, L, rfl, hmp, hro, hcl2, hL14, hb2⟩
  have HRO : Hid (ROwn w.heap.size w2 v2 L) := rown_lower HBV.out.size hro
  have HCL2 : Hid (∀ x ∈ L, LOwn w.heap.size w2 x.2 x.1.1.cla) := fun x hx => own_lower HBV.out.size (hcl2 x hx)
  have HMP : Hid (L.map (·.1) = reasonsP vs cs pt h) := hmp
  have HB2 : Hid (Below V.heap.size V w2) := hb2
  have HBW2 : Hid (Below w.heap.size w w2) := HBV.out.trans (hb2.mono HBV.out.size)
  have HSL : Hid (∀ x ∈ L, IsSl x) := fun x hx => by
    obtain ⟨a, c, he⟩ := own_form (show w2.ownsRow _ _ _ _ _ _ from hcl2 x hx)
    exact ⟨a, _, c, he⟩
  have HX36 : Hid (∀ x ∈ L, x.1.2 < 2 ^ 36) := fun x hx => by
    have h1 : x.1 ∈ reasonsP vs cs pt h := by rw [← hmp]; exact List.mem_map.2 ⟨x, hx, rfl⟩
    obtain ⟨t, _, ht⟩ := List.mem_flatMap.1 h1
    unfold reasonsT at ht
    split at ht
    · rw [List.mem_singleton.1 ht]; exact of_lt vs HVO.out.1 _
    · obtain ⟨l, _, hl⟩ := List.mem_map.1 ht
      rw [← hl]; exact of_lt vs HVO.out.1 _
  obtain ⟨ao, co, rfl⟩ := own_form (show w2.ownsRow _ _ _ _ _ _ from hro)
  clear hmp hro hcl2 hb2 k1 k2
  go_wp2_with fail
  refine (least_reasons 132 #[.pointer (some ⟨w.heap.size, 0, none⟩), .pointer (some ⟨G, 0, none⟩)] (fun c => enoughP vs cs h (c.map (·.1))) L HSL.out (by omega) _ _ HRO.out.arg ⟨enters_enough, fun c v Y hc hcm hY hv => ?_⟩).mono ?_
  · have hYV := HB2.out.trans (hY.mono HB2.out.size)
    have hYW := HBV.out.trans (hYV.mono HBV.out.size)
    obtain ⟨q1, q2, q3, q4⟩ := HK.out Y hYV
    exact senough_any vs HVO.out H1.out pt cs HCS.out h HH36.out r _ pv cv c (by omega) (fun x hx => HX36.out x (hcm x hx)) (fun x hx => HSL.out x (hcm x hx)) v _ _ Y (HR.out Y hYW) hv q1 q2 q3 q4
  rintro e w3 ⟨v3, rfl, hro3, hb3⟩
  obtain ⟨R, hRe⟩ : ∃ R, leastL (fun c => enoughP vs cs h (c.map (·.1))) L.length L = R := ⟨_, rfl⟩
  have HRM : Hid (R.map (·.1) = leastL (enoughP vs cs h) (reasonsP vs cs pt h).length (reasonsP vs cs pt h)) := by show _ = _; rw [← hRe, least_map (fun x : RV => x.1), ← HMP.out, List.length_map]
  have HRS : Hid (∀ x ∈ R, x ∈ L) := fun x hx => least_mem _ x _ _ (by rw [hRe]; exact hx)
  have hRL : R.length ≤ 1400 := by rw [← hRe]; exact Nat.le_trans (least_len _ _ _) hL14
  rw [hRe] at hro3
  have HRO3 : Hid (ROwn w.heap.size w3 v3 R) := rown_lower HBW2.out.size hro3
  have HB3 : Hid (Below w.heap.size w w3) := HBW2.out.trans (hb3.mono HBW2.out.size)
  have HCL3 : Hid (∀ x ∈ R, LOwn w.heap.size w3 x.2 x.1.1.cla) := fun x hx => own_below (HCL2.out x (HRS.out x hx)) hb3
  obtain ⟨a3, c3, rfl⟩ := own_form (show w3.ownsRow _ _ _ _ _ _ from hro3)
  clear hro3 hb3 hRe
  go_wp2_with fail
  go_loopw [7, 23] (fun o i wr => ∃ k : Nat, k ≤ R.length ∧ i = .int .i64 k ∧ Hid (∃ D : List SV, D.map (·.1) = (R.take k).map (·.1.1) ∧ StOwn w.heap.size wr o D ∧ ROwn w.heap.size wr (.slice a3 R.length c3) R ∧ (∀ x ∈ R, LOwn w.heap.size wr x.2 x.1.1.cla) ∧ Below w.heap.size w wr)) (fun _ i _ => R.length - (intOf i).toNat)
  case atStart => exact ⟨0, by omega, rfl, [], rfl, ⟨World.ownsRow_nil _ _ _ _, fun x hx => by cases hx⟩, HRO3.out, HCL3.out, HB3.out⟩
  case round =>
    obtain ⟨k, hk, rfl, hrest⟩ := hrel
    obtain ⟨D, hD, hso, hrr, hcr, hbw⟩ := hrest.out
    have HD : Hid (D.map (·.1) = (R.take k).map (·.1.1)) := hD
    have HSO : Hid (StOwn w.heap.size wr u7 D) := hso
    have HRR : Hid (ROwn w.heap.size wr (.slice a3 R.length c3) R) := hrr
    have HCR : Hid (∀ x ∈ R, LOwn w.heap.size wr x.2 x.1.1.cla) := hcr
    have HBW : Hid (Below w.heap.size w wr) := hbw
    have hDk : D.length = k := by
      have h1 := congrArg List.length hD
      rw [List.length_map, List.length_map, List.length_take] at h1
      omega
    obtain ⟨ad, cd, hu7⟩ := own_form hso.1
    rw [hDk] at hu7
    subst hu7
    clear hD hso hrr hcr hbw hrest
    by_cases hlt : k < R.length
    · obtain ⟨t, ht⟩ : ∃ t, R[k]? = some t := ⟨R[k], by simp [hlt]⟩
      obtain ⟨a4, n4, c4, b4, o4, he4, hn4, hc41, hc42, ha4, hb4, q0, q1, q2, q3⟩ := reason_cells HRR.out.arg k t ht
      injection he4 with he4 he5 he6
      rw [ha4] at he4
      subst he4
      have htm : t ∈ R := List.mem_of_getElem? ht
      have HTC : Hid (LOwn w.heap.size wr t.2 t.1.1.cla) := HCR.out t htm
      obtain ⟨sa, sc, hse⟩ := own_form (show wr.ownsRow _ _ _ _ _ _ from HTC.out)
      rw [hse] at q2
      have HSE : Hid (t.2 = .slice sa t.1.1.cla.length sc) := hse
      have HNX : Hid ((D ++ [(t.1.1, t.2)]).map (·.1) = (R.take (k + 1)).map (·.1.1)) := by
        show _ = _
        rw [List.map_append, HD.out, List.take_add_one, ht, List.map_append]; rfl
      have hcc : R.length ≤ c3 := by omega
      unfold maxLen at hc42
      have hcm : c3 ≤ 2 ^ 63 - 1 := by omega
      clear he5 he6 hc41 hc42 hn4 hse ha4 ht
      have hbs := HBW.out.size
      obtain ⟨kd, hkd⟩ : ∃ kd, t.1.1.kind = kd := ⟨_, rfl⟩
      obtain ⟨cn, hcn⟩ : ∃ cn, t.1.1.con = cn := ⟨_, rfl⟩
      obtain ⟨hz, hhz⟩ : ∃ hz : Nat, t.1.2 = hz := ⟨_, rfl⟩
      obtain ⟨nl, hnl⟩ : ∃ nl, t.1.1.cla.length = nl := ⟨_, rfl⟩
      rw [hkd] at q0
      rw [hcn] at q1
      rw [hhz] at q3
      rw [hnl] at q2 HSE
      have HSC : Hid (stepCs (t.1.1, t.2) = [.int .i64 kd, .int .i64 cn, .slice sa nl sc]) := by show _ = _; unfold stepCs; rw [HSE.out, hkd, hcn]
      have HSL2 : Hid (∀ V : World, ∀ (j : Nat) (u : Value), ([.int .i64 kd, .int .i64 cn, .slice sa nl sc] : List Value)[j]? = some u → (V.alloc (.cells #[.int .i64 kd, .int .i64 cn, .slice sa nl sc] 65)).cell? ((⟨V.heap.size, 0, none⟩ : Addr).add j) = some u) := fun V => by
        have h1 := step_laid V (⟨kd, cn, []⟩, .slice sa nl sc)
        exact h1
      clear hkd hcn hhz hnl
      have HBX : Hid (Below wr.heap.size wr (wr.alloc (.cells #[.int .i64 kd, .int .i64 cn, .slice sa nl sc, .int .u64 (hz : Int)] 171))) := below_alloc _ _
      go_upto_region 7 with (fail)
      obtain ⟨V, hV⟩ : ∃ V, wr.alloc (.cells #[.int .i64 kd, .int .i64 cn, .slice sa nl sc, .int .u64 (hz : Int)] 171) = V := ⟨_, rfl⟩
      have k0 : (wr.alloc (.cells #[.int .i64 kd, .int .i64 cn, .slice sa nl sc, .int .u64 (hz : Int)] 171)).cell? ⟨wr.heap.size, 0, none⟩ = some (.int .i64 kd) := World.cell?_alloc_at _ _ _ 0 (by simp)
      have k1 : (wr.alloc (.cells #[.int .i64 kd, .int .i64 cn, .slice sa nl sc, .int .u64 (hz : Int)] 171)).cell? ⟨wr.heap.size, 1, none⟩ = some (.int .i64 cn) := World.cell?_alloc_at _ _ _ 1 (by simp)
      have k2 : (wr.alloc (.cells #[.int .i64 kd, .int .i64 cn, .slice sa nl sc, .int .u64 (hz : Int)] 171)).cell? ⟨wr.heap.size, 2, none⟩ = some (.slice sa nl sc) := World.cell?_alloc_at _ _ _ 2 (by simp)
      rw [hV] at HBX k0 k1 k2 ⊢
      clear hV q0 q1 q2 q3
      have hvs := HBX.out.size
      have HBV2 : Hid (Below w.heap.size w V) := HBW.out.trans (HBX.out.mono HBW.out.size)
      have HSV : Hid (StOwn w.heap.size (V.alloc (.cells #[.int .i64 kd, .int .i64 cn, .slice sa nl sc] 65)) (.slice ad k cd) D) := (HSO.out.below HBX.out).below (below_alloc _ _)
      have HOV : Hid ((V.alloc (.cells #[.int .i64 kd, .int .i64 cn, .slice sa nl sc] 65)).ownsRow w.heap.size 65 3 (.slice ad k cd) k (D.map stepCs).flatten) := by have := HSV.out.1; rw [hDk] at this; exact this
      go_wp2_with (at_builtin; refine wpList_append_own _ rfl _ _ 59 rfl w.heap.size 65 i0 (.agg #[.int .i64 0, .int .i64 0, .slice none 0 0]) 3 40 Tryz.underStepsF hi0 hz0 hz1 hz2 rfl (by decide) _ _ _ rfl HOV.out ⟨V.heap.size, 0, none⟩ 1 1 [.int .i64 kd, .int .i64 cn, .slice sa nl sc] rfl rfl (HSL2.out V) (by intro u hu; simp at hu; rcases hu with rfl | rfl | rfl <;> rfl) ?c1 ?c2 ?c3 ?_)
      case c1 => unfold maxLen; omega
      case c2 => omega
      case c3 => simp; omega
      intro v6 w6 hown6 hg6 _
      have HBA : Hid (Below wr.heap.size wr (V.alloc (.cells #[.int .i64 kd, .int .i64 cn, .slice sa nl sc] 65))) := HBX.out.alloc hvs _
      have HS6 : Hid (StOwn w.heap.size w6 v6 (D ++ [(t.1.1, t.2)])) := StOwn.push HSV.out (own_below HTC.out HBA.out) hg6 (by rw [hDk]) (by rw [HSC.out]; exact hown6)
      have HR6 : Hid (ROwn w.heap.size w6 (.slice (some ⟨b4, o4, none⟩) R.length c3) R) := own_grown (own_below HRR.out HBA.out) hg6 HOV.out (by decide)
      have HC6 : Hid (∀ x ∈ R, LOwn w.heap.size w6 x.2 x.1.1.cla) := fun x hx => own_grown (own_below (HCR.out x hx) HBA.out) hg6 HOV.out (by decide)
      have HB6 : Hid (Below w.heap.size w w6) := (HBV2.out.alloc HBV2.out.size _).grown hg6 (by have := HBV2.out.size; simp; omega) (fun g hg => (HOV.out.lt g hg).1)
      obtain ⟨a9, c9, rfl⟩ := own_form hown6
      clear hown6 hg6 k0 k1 k2
      go_wp2
      go_roundw
      case rel => exact ⟨k + 1, by omega, by go_num, D ++ [(t.1.1, t.2)], HNX.out, HS6.out, HR6.out, HC6.out, HB6.out⟩
      case measure => simp [intOf]; omega
    · have HFD : Hid (D.map (·.1) = R.map (·.1.1)) := by have h1 := HD.out; rw [List.take_of_length_le (by omega)] at h1; exact h1
      have HDK : Hid (D.length = k) := hDk
      clear hDk
      go_wp2_with fail
      refine (clone_cla cl HCL.out _ _ (HU.out _ HBW.out)).mono ?_
      rintro e w5 ⟨x, rfl, hx, hb5⟩
      have HX : Hid (LOwn w.heap.size w5 x cl) := own_lower HBW.out.size hx
      have HB5 : Hid (Below w.heap.size w w5) := HBW.out.trans (hb5.mono HBW.out.size)
      have HS5 : Hid (StOwn w.heap.size w5 (.slice ad k cd) D) := HSO.out.below hb5
      obtain ⟨ax, cx, rfl⟩ := own_form (show w5.ownsRow _ _ _ _ _ _ from hx)
      clear hx hb5
      have hs5 := HB5.out.size
      have HSV : Hid (StOwn w.heap.size (w5.alloc (.cells #[.int .i64 2, .int .i64 0, .slice ax cl.length cx] 65)) (.slice ad k cd) D) := HS5.out.below (below_alloc _ _)
      have HOV : Hid ((w5.alloc (.cells #[.int .i64 2, .int .i64 0, .slice ax cl.length cx] 65)).ownsRow w.heap.size 65 3 (.slice ad k cd) k (D.map stepCs).flatten) := by have := HSV.out.1; rw [HDK.out] at this; exact this
      go_wp2_with (at_builtin; refine wpList_append_own _ rfl _ _ 59 rfl w.heap.size 65 i0 (.agg #[.int .i64 0, .int .i64 0, .slice none 0 0]) 3 40 Tryz.underStepsF hi0 hz0 hz1 hz2 rfl (by decide) _ _ _ rfl HOV.out ⟨w5.heap.size, 0, none⟩ 1 1 [.int .i64 2, .int .i64 0, .slice ax cl.length cx] rfl rfl (step_laid w5 (⟨2, 0, cl⟩, .slice ax cl.length cx)) (by intro u hu; simp at hu; rcases hu with rfl | rfl | rfl <;> rfl) ?c1 ?c2 ?c3 ?_)
      case c1 => unfold maxLen; omega
      case c2 => omega
      case c3 => simp; omega
      intro v6 w6 hown6 hg6 _
      have HS6 : Hid (StOwn w.heap.size w6 v6 (D ++ [((⟨2, 0, cl⟩ : MStep), Value.slice ax cl.length cx)])) := StOwn.push HSV.out (own_below HX.out (below_alloc _ _)) hg6 (by rw [HDK.out]) hown6
      have HB6 : Hid (Below w.heap.size w w6) := (HB5.out.alloc hs5 _).grown hg6 (by simp; omega) (fun g hg => (HOV.out.lt g hg).1)
      have HM6 : Hid ((D ++ [((⟨2, 0, cl⟩ : MStep), Value.slice ax cl.length cx)]).map (·.1) = ST) := by
        show _ = _
        rw [HST.out, ← HRM.out, List.map_append, HFD.out, List.map_map]; rfl
      have HL6 : Hid ((D ++ [((⟨2, 0, cl⟩ : MStep), Value.slice ax cl.length cx)]).length ≤ 1500) := by show _ ≤ _; rw [List.length_append, HDK.out]; simp; omega
      obtain ⟨a9, c9, rfl⟩ := own_form hown6
      clear hown6 hg6
      go_wp2
      go_ret
      exact ⟨_, _, rfl, HM6.out, HS6.out, HL6.out, HB6.out⟩
end Go.Proofs.YtijohkhpigjbkaeGreatDoor
/-
  WALK: package follow: Of.
-/
namespace Go.Proofs.YtijohkhpigjbkaeGreatDoor
open Go.RowKit

theorem ptsM_lt (m : Mod) (hm : checkM m = 0) : ∀ pts ∈ ptsM m, ∀ z ∈ pts, z < 2 ^ 36 := by
  intro pts hp
  obtain ⟨c, hcm, rfl⟩ := List.mem_map.1 hp
  obtain ⟨j, hj⟩ := List.mem_iff_getElem?.1 hcm
  exact pointsP_lt m hm j c hj
theorem rul_of {w W : World} {r : Nat} {sv pv : Value} {vs : List MVar} {pt : List (List Nat)} (hr : w.heap.size ≤ r) (hrW : r < W.heap.size) (hb : Below w.heap.size w W) (hv : VArg w sv vs) (hT : TabT w) (hp : PRow (r + 1) W pv pt) (hl : ∀ pts ∈ pt, ∀ z ∈ pts, z < 2 ^ 36) : Rul W r sv pv vs pt := by
  refine ⟨hrW, fun w' hf => ?_⟩
  have hb2 : Below w.heap.size w w' := ⟨hf.os.trans hb.os, hf.tape.trans hb.tape, hf.output.trans hb.output, Nat.le_trans hb.size hf.size, fun k hk => (hf.block k (Nat.lt_of_lt_of_le hk hb.size) (by omega)).trans (hb.block k hk)⟩
  exact ⟨VArg.below hb2 hv, (hp.fr hf (fun g hg => by omega)).arg hl, hT.below hb2⟩

set_option maxHeartbeats 3200000 in
set_option maxRecDepth 100000 in
theorem of_rules (m : Mod) (hm : checkM m = 0) (vs cs : Value) (w : World) (hma : MArg w vs cs m) (hT : TabT w) :
    Calls Tryz.prog 124 #[modV vs cs m] w fun e w' => ∃ r pv, e = .returned (.pointer (some ⟨r, 0, none⟩)) ∧ Rul w' r vs pv m.vars (ptsM m) ∧ RulD w' w' r vs pv (.slice none 0 0) [] ∧ w.heap.size ≤ r ∧ Below w.heap.size w w' := by
  obtain ⟨i0, hi0, hz0, hz1, hz2⟩ := info_parts Tryz.infoPts
  have HMA : Hid (∀ w', Below w.heap.size w w' → MArg w' vs cs m) := fun w' h => MArg.below h hma
  have HVW : Hid (VArg w vs m.vars) := hma.1
  have HT : Hid (TabT w) := hT
  have HM : Hid (checkM m = 0) := hm
  have h8 : m.cons.length ≤ 8 := (checkM_vars m hm).2.2.1
  obtain ⟨⟨a1, c1, rfl, _, _⟩, ⟨a2, c2, rfl, _, _⟩⟩ := hma
  unfold modV
  obtain ⟨L, hL⟩ : ∃ L, ptsM m = L := ⟨_, rfl⟩
  have HL : Hid (ptsM m = L) := hL
  have HLL : Hid (L.length = m.cons.length) := by show _ = _; rw [← hL]; unfold ptsM; rw [List.length_map]
  rw [hL]
  clear hL
  clear hm hT
  go_enter Tryz.func124, Tryz.ntmps124
  go_wp2_with fail
  have HB0 : Hid (Below w.heap.size w ((w.alloc (.cells #[.slice a1 m.vars.length c1, .slice a2 m.cons.length c2, .int .i64 m.goal, .int .i64 m.var] 25)).alloc (.cells #[.slice a1 m.vars.length c1, .slice none 0 0, .slice none 0 0] 167))) := (below_alloc _ _).alloc (by simp) _
  have HQ : Hid (((w.alloc (.cells #[.slice a1 m.vars.length c1, .slice a2 m.cons.length c2, .int .i64 m.goal, .int .i64 m.var] 25)).alloc (.cells #[.slice a1 m.vars.length c1, .slice none 0 0, .slice none 0 0] 167)).heap[w.heap.size]? = some (.cells #[.slice a1 m.vars.length c1, .slice a2 m.cons.length c2, .int .i64 m.goal, .int .i64 m.var] 25)) := ((below_alloc (w.alloc (.cells #[.slice a1 m.vars.length c1, .slice a2 m.cons.length c2, .int .i64 m.goal, .int .i64 m.var] 25)) (.cells #[.slice a1 m.vars.length c1, .slice none 0 0, .slice none 0 0] 167)).block w.heap.size (by simp)).trans (heap_alloc_new w _)
  have HBK : Hid (((w.alloc (.cells #[.slice a1 m.vars.length c1, .slice a2 m.cons.length c2, .int .i64 m.goal, .int .i64 m.var] 25)).alloc (.cells #[.slice a1 m.vars.length c1, .slice none 0 0, .slice none 0 0] 167)).heap[w.heap.size + 1]? = some (.cells #[.slice a1 m.vars.length c1, .slice none 0 0, .slice none 0 0] 167)) := by
    have h := heap_alloc_new (w.alloc (.cells #[.slice a1 m.vars.length c1, .slice a2 m.cons.length c2, .int .i64 m.goal, .int .i64 m.var] 25)) (.cells #[.slice a1 m.vars.length c1, .slice none 0 0, .slice none 0 0] 167)
    rw [World.size_alloc] at h
    exact h
  have HS0 : Hid (((w.alloc (.cells #[.slice a1 m.vars.length c1, .slice a2 m.cons.length c2, .int .i64 m.goal, .int .i64 m.var] 25)).alloc (.cells #[.slice a1 m.vars.length c1, .slice none 0 0, .slice none 0 0] 167)).heap.size = w.heap.size + 2) := by show _ = _; simp
  obtain ⟨W, hW⟩ : ∃ W, ((w.alloc (.cells #[.slice a1 m.vars.length c1, .slice a2 m.cons.length c2, .int .i64 m.goal, .int .i64 m.var] 25)).alloc (.cells #[.slice a1 m.vars.length c1, .slice none 0 0, .slice none 0 0] 167)) = W := ⟨_, rfl⟩
  rw [hW] at HB0 HQ HBK HS0 ⊢
  clear hW
  go_loopw [12] (fun i wr => ∃ (k : Nat) (pv : Value), k ≤ m.cons.length ∧ i = .int .i64 k ∧ Hid (PRow (w.heap.size + 2) wr pv (L.take k)) ∧ Hid (wr.heap[w.heap.size + 1]? = some (.cells #[.slice a1 m.vars.length c1, pv, .slice none 0 0] 167)) ∧ Hid (Below (w.heap.size + 1) W wr)) (fun i _ => m.cons.length - (intOf i).toNat)
  case atStart => exact ⟨0, .slice none 0 0, by omega, rfl, ⟨[], World.ownsRow_nil _ _ _ _, fun i pts h => by simp at h⟩, HBK, Below.refl _ _⟩
  case round =>
    obtain ⟨k, pv, hk, rfl, HROW, HBLK, HBW⟩ := hrel
    have HBN : Hid (Below w.heap.size w wr) := HB0.out.trans (HBW.out.mono (by omega))
    have HSZ : Hid (w.heap.size + 2 ≤ wr.heap.size) := by have := HBW.out.size; have := HS0.out; show _ ≤ _; omega
    have HMB : Hid (wr.heap[w.heap.size]? = some (.cells #[.slice a1 m.vars.length c1, .slice a2 m.cons.length c2, .int .i64 m.goal, .int .i64 m.var] 25)) := (HBW.out.block w.heap.size (by omega)).trans HQ.out
    have k0 : wr.cell? ⟨w.heap.size, 0, none⟩ = some (.slice a1 m.vars.length c1) := blk9 HMB.out 0 _ rfl
    have k1 : wr.cell? ⟨w.heap.size, 1, none⟩ = some (.slice a2 m.cons.length c2) := blk9 HMB.out 1 _ rfl
    have k2 : wr.cell? ⟨w.heap.size, 2, none⟩ = some (.int .i64 m.goal) := blk9 HMB.out 2 _ rfl
    have k3 : wr.cell? ⟨w.heap.size, 3, none⟩ = some (.int .i64 m.var) := blk9 HMB.out 3 _ rfl
    obtain ⟨cells, hcw, hrows⟩ := HROW.out
    have HCW : Hid (wr.ownsRow (w.heap.size + 2) 122 1 pv (L.take k).length cells) := hcw
    have HRW : Hid (∀ (i : Nat) (p : List Nat), (L.take k)[i]? = some p → ∃ x, cells[i]? = some x ∧ wr.ownsRow (w.heap.size + 2) 118 1 x p.length (u64s p)) := hrows
    obtain ⟨ap, cp, hpv⟩ := own_form hcw
    have HTL : Hid ((L.take k).length = k) := by show _ = _; rw [List.length_take, HLL.out]; omega
    rw [HTL.out] at hpv HCW
    subst hpv
    have g1 : wr.cell? ⟨w.heap.size + 1, 1, none⟩ = some (.slice ap k cp) := blk9 HBLK.out 1 _ rfl
    have lr : w.heap.size < wr.heap.size := by have := HSZ.out; omega
    have lr1 : w.heap.size + 1 < wr.heap.size := by have := HSZ.out; omega
    clear hcw hrows
    by_cases hlt : k < m.cons.length
    · obtain ⟨c, hc⟩ : ∃ c, m.cons[k]? = some c := ⟨m.cons[k], by simp [hlt]⟩
      have HLK : Hid (L[k]? = some (pointsP m.vars c)) := by show _ = _; rw [← HL.out]; unfold ptsM; rw [List.getElem?_map, hc]; rfl
      have HPT : Hid (∀ Y, Below wr.heap.size wr Y → Calls Tryz.prog 82 #[.agg #[.slice a1 m.vars.length c1, .slice a2 m.cons.length c2, .int .i64 m.goal, .int .i64 m.var], .int .i64 (k : Int)] Y fun e w' => ∃ x, e = .returned x ∧ w'.ownsRow Y.heap.size 118 1 x (pointsP m.vars c).length (u64s (pointsP m.vars c)) ∧ Below Y.heap.size Y w') := fun Y hY =>
        points_own m k c _ _ Y HM.out hc (HMA.out _ (HBN.out.trans (hY.mono HBN.out.size)))
      have HTN : Hid (L.take (k + 1) = L.take k ++ [pointsP m.vars c]) := by show _ = _; rw [List.take_add_one, HLK.out]; rfl
      obtain ⟨pts, hpts⟩ : ∃ pts, pointsP m.vars c = pts := ⟨_, rfl⟩
      rw [hpts] at HPT HTN
      clear hc hpts
      go_wp2_with fail
      go_region_law
        (first
          | (rw [if_pos (by rfl)]; refine wp_append_own _ _ _ 165 rfl (w.heap.size + 2) 122 i0 _ 1 24 Tryz.underPts hi0 hz0 hz1 hz2 rfl (by decide) _ _ _ rfl (hw3.alloc _) ⟨w3.heap.size, 0, none⟩ 1 1 [.slice ax pts.length cx] rfl rfl (pts_laid w3 (.slice ax pts.length cx)) (by intro u hu; simp at hu; subst hu; rfl) ?_ ?_ ?_ ?_; (unfold maxLen; omega); omega; (have := hB3.size; have := HSZ.out; simp; omega); intro v4 w4 hown4 hg4 _; have hP : PRow (w.heap.size + 2) w4 v4 (L.take k ++ [pts]) := PRow.push (by rw [HTL.out]; exact hw3.alloc _) (fun i p hi => (hr3 i p hi).imp fun y hy => ⟨hy.1, hy.2.alloc _⟩) (hx3.alloc _) hg4 (by rw [HTL.out]) hown4; obtain ⟨a9, b9, hv9⟩ := own_form hown4; subst hv9; have hk4 := blk_grown (((below_alloc w3 _).block (w.heap.size + 1) l3).trans hbk3) hg4 (hw3.alloc _) (by decide); have d2 : w4.cell? ⟨w.heap.size + 1, 1, none⟩ = some (.slice ap k cp) := blk9 hk4 1 _ rfl; have z2 : w4.frozen? ⟨w.heap.size + 1, 1, none⟩ = false := frz9 hk4 1)
          | (rw [if_pos (by rfl)]; go_simp; go_at_call 82; refine (HPT.out _ (Below.refl _ _).drew).mono ?_; rintro e w3 ⟨x, rfl, hx, hb3⟩; obtain ⟨ax, cx, rfl⟩ := own_form hx; have hB3 : Below wr.heap.size wr w3 := (Below.refl _ _).drew.trans hb3; have c3 : w3.cell? ⟨w.heap.size + 1, 1, none⟩ = some (.slice ap k cp) := (hB3.cell (p := ⟨w.heap.size + 1, 1, none⟩) lr1).trans g1; have hw3 : w3.ownsRow (w.heap.size + 2) 122 1 (.slice ap k cp) k cells := own_below HCW.out hB3; have hr3 : ∀ (i : Nat) (p : List Nat), (L.take k)[i]? = some p → ∃ x, cells[i]? = some x ∧ w3.ownsRow (w.heap.size + 2) 118 1 x p.length (u64s p) := fun i p hi => (HRW.out i p hi).imp fun y hy => ⟨hy.1, own_below hy.2 hB3⟩; have hx3 : w3.ownsRow (w.heap.size + 2) 118 1 (.slice ax pts.length cx) pts.length (u64s pts) := World.ownsRow.mono hx HSZ.out; have l3 : w.heap.size + 1 < w3.heap.size := Nat.lt_of_lt_of_le lr1 hB3.size; have hbk3 := (hB3.block (w.heap.size + 1) lr1).trans HBLK.out; dsimp only))
      all_goals
        have HR4 : Hid (PRow (w.heap.size + 2) (w4.setCell ⟨w.heap.size + 1, 1, none⟩ (.slice a9 (k + 1) b9)) (.slice a9 (k + 1) b9) (L.take (k + 1))) := by
          rw [HTN.out]
          exact hP.fr (X := fun g => g = w.heap.size + 1) (Fr.setX (X := fun g => g = w.heap.size + 1) (Fr.refl _ _) (p := ⟨w.heap.size + 1, 1, none⟩) rfl _) (fun g hg => by omega)
        have HK4 : Hid ((w4.setCell ⟨w.heap.size + 1, 1, none⟩ (.slice a9 (k + 1) b9)).heap[w.heap.size + 1]? = some (.cells #[.slice a1 m.vars.length c1, .slice a9 (k + 1) b9, .slice none 0 0] 167)) := by show _ = _; rw [heap_setCell_same w4 (w.heap.size + 1) 1 _ _ _ hk4]; rfl
        have HB4 : Hid (Below (w.heap.size + 1) W (w4.setCell ⟨w.heap.size + 1, 1, none⟩ (.slice a9 (k + 1) b9))) := ((((HBW.out.trans (hB3.mono (by have := HSZ.out; omega))).alloc (by have := hB3.size; have := HSZ.out; omega) _).grown hg4 (by have := hB3.size; have := HSZ.out; simp; omega) (fun g hg => by have := ((hw3.alloc (.cells #[.slice ax pts.length cx] 122)).lt g hg).1; omega))).setCell (show w.heap.size + 1 ≤ w.heap.size + 1 from Nat.le_refl _) _
        clear hP hx hb3 hB3 c3 hw3 hr3 hx3 l3 hbk3 hown4 hg4 hk4 k0 k1 k2 k3 g1 HROW HBLK HBW
        go_wp2
        go_roundw
        case rel => exact ⟨k + 1, _, by omega, by go_num, HR4, HK4, HB4⟩
        case measure => simp [intOf]; omega
    · have hke : k = m.cons.length := by omega
      have HFIN : Hid (PRow (w.heap.size + 2) wr (.slice ap k cp) L) := by have := HROW.out; rw [List.take_of_length_le (by rw [HLL.out]; omega)] at this; exact this
      have HRU : Hid (Rul wr (w.heap.size + 1) (.slice a1 m.vars.length c1) (.slice ap k cp) m.vars L) := rul_of (by omega) lr1 HBN.out HVW.out HT.out HFIN.out (by rw [← HL.out]; exact ptsM_lt m HM.out)
      have HRD : Hid (RulD wr wr (w.heap.size + 1) (.slice a1 m.vars.length c1) (.slice ap k cp) (.slice none 0 0) []) := ⟨HBLK.out, World.ownsRow_nil _ _ _ _, (fun z hz => by cases hz), Fr.refl _ _⟩
      have hle : ¬ ((k : Int) < (m.cons.length : Int)) := by omega
      clear hke k0 k1 k2 k3 g1
      go_wp2
      go_ret
      exact ⟨w.heap.size + 1, rfl, _, HRU.out, HRD.out, by omega, HBN.out⟩
end Go.Proofs.YtijohkhpigjbkaeGreatDoor
/-
  MEMORY: lists of clauses.
-/
namespace Go.Proofs.YtijohkhpigjbkaeGreatDoor
open Go.RowKit

/-- A list of clauses. -/
def LLArg (w : World) (v : Value) (l : List Cla) : Prop :=
  ∃ a c, v = .slice a l.length c ∧ (l.length ≤ c ∧ c ≤ maxLen) ∧ ∀ (i : Nat) (t : Cla), l[i]? = some t → ∃ b off x, a = some ⟨b, off, none⟩ ∧ b < w.heap.size ∧ w.cell? ⟨b, off + i, none⟩ = some x ∧ LArg w x t
theorem LLArg.below {w w' : World} {v : Value} {l : List Cla} (hb : Below w.heap.size w w') (h : LLArg w v l) : LLArg w' v l := by
  obtain ⟨a, c, hv, hm, hr⟩ := h
  refine ⟨a, c, hv, hm, fun i z hz => ?_⟩
  obtain ⟨b, off, x, ha, hlt, hc, hx⟩ := hr i z hz
  exact ⟨b, off, x, ha, Nat.lt_of_lt_of_le hlt hb.size, (hb.cell (p := ⟨b, off + i, none⟩) hlt).trans hc, LArg.below hb hx⟩
end Go.Proofs.YtijohkhpigjbkaeGreatDoor
/-
  WALKS: package fault: what is wrong with a literal.
-/
namespace Go.Proofs.YtijohkhpigjbkaeGreatDoor
open Go.RowKit

set_option maxHeartbeats 800000 in
set_option maxRecDepth 100000 in
theorem lit_check (vs : List MVar) (l : MLit) (v : Value) (w : World) (hv : VArg w v vs) :
    Calls Tryz.prog 95 #[v, .agg #[.int .i64 l.var, .int .i64 l.op, .int .i64 l.n]] w fun e w' => e = .returned (.int .i64 (litE vs l)) ∧ Below w.heap.size w w' := by
  obtain ⟨a, c, rfl, hm, _⟩ := hv
  unfold maxLen at hm
  obtain ⟨hm1, hm⟩ := hm
  obtain ⟨R, hR⟩ : ∃ R, litE vs l = R := ⟨_, rfl⟩
  rw [hR]
  unfold litE at hR
  by_cases q1 : l.var < 0
  · have HE : Hid (R = 5) := by rw [← hR, if_pos (Or.inl q1)]; rfl
    clear hR
    go_enter Tryz.func95, Tryz.ntmps95
    go_wp2
    go_ret
    exact ⟨ret_int HE.out.symm, below_alloc _ _⟩
  by_cases q2 : (vs.length : Int) ≤ l.var
  · have HE : Hid (R = 5) := by rw [← hR, if_pos (Or.inr q2)]; rfl
    clear hR
    go_enter Tryz.func95, Tryz.ntmps95
    go_wp2
    go_ret
    exact ⟨ret_int HE.out.symm, below_alloc _ _⟩
  rw [if_neg (by omega)] at hR
  by_cases q3 : l.op < 1
  · have HE : Hid (R = 7) := by rw [← hR, if_pos (Or.inl q3)]; rfl
    clear hR
    go_enter Tryz.func95, Tryz.ntmps95
    go_wp2
    go_ret
    exact ⟨ret_int HE.out.symm, below_alloc _ _⟩
  by_cases q4 : 4 < l.op
  · have HE : Hid (R = 7) := by rw [← hR, if_pos (Or.inr q4)]; rfl
    clear hR
    go_enter Tryz.func95, Tryz.ntmps95
    go_wp2
    go_ret
    exact ⟨ret_int HE.out.symm, below_alloc _ _⟩
  rw [if_neg (by omega)] at hR
  by_cases q5 : l.n < -1000
  · have HE : Hid (R = 3) := by rw [← hR, if_pos (Or.inl q5)]; rfl
    clear hR
    go_enter Tryz.func95, Tryz.ntmps95
    go_wp2
    go_ret
    exact ⟨ret_int HE.out.symm, below_alloc _ _⟩
  by_cases q6 : 1000 < l.n
  · have HE : Hid (R = 3) := by rw [← hR, if_pos (Or.inr q6)]; rfl
    clear hR
    go_enter Tryz.func95, Tryz.ntmps95
    go_wp2
    go_ret
    exact ⟨ret_int HE.out.symm, below_alloc _ _⟩
  have HE : Hid (R = 0) := by rw [← hR, if_neg (by omega)]; rfl
  clear hR
  go_enter Tryz.func95, Tryz.ntmps95
  go_wp2
  go_ret
  exact ⟨ret_int HE.out.symm, below_alloc _ _⟩

end Go.Proofs.YtijohkhpigjbkaeGreatDoor
/-
  WALKS: package fault: what is wrong with a clause.
-/
namespace Go.Proofs.YtijohkhpigjbkaeGreatDoor
open Go.RowKit

set_option maxHeartbeats 800000 in
set_option maxRecDepth 100000 in
theorem cla_check (vs : List MVar) (c : Cla) (v u : Value) (w : World) (hv : VArg w v vs) (hu : LArg w u c) :
    Calls Tryz.prog 85 #[v, u] w fun e w' => e = .returned (.int .i64 (claE vs c)) ∧ Below w.heap.size w w' := by
  have HVA : Hid (∀ w' : World, Below w.heap.size w w' → VArg w' v vs) := fun w' h => VArg.below h hv
  obtain ⟨a1, c1, rfl, _, _⟩ := hv
  obtain ⟨a, cc, rfl, hm, hr⟩ := hu
  have HV : Hid (∀ (i : Nat) (t : MLit), c[i]? = some t → ∃ b off, a = some ⟨b, off, none⟩ ∧ b < w.heap.size ∧
    w.cell? ⟨b, off + i * 3, none⟩ = some (.int .i64 t.var) ∧ w.cell? ⟨b, off + i * 3 + 1, none⟩ = some (.int .i64 t.op) ∧ w.cell? ⟨b, off + i * 3 + 2, none⟩ = some (.int .i64 t.n)) := hr
  unfold maxLen at hm
  obtain ⟨hm1, hm⟩ := hm
  obtain ⟨R, hR⟩ : ∃ R, claE vs c = R := ⟨_, rfl⟩
  rw [hR]
  have HE : Hid (R = if 40 < c.length then 2 else firstE (c.map (litE vs))) := by rw [← hR]; rfl
  clear hR hr
  by_cases h40 : 40 < c.length
  · have HN : Hid (R = 2) := by rw [HE.out, if_pos h40]; rfl
    go_enter Tryz.func85, Tryz.ntmps85
    go_wp2
    go_ret
    exact ⟨ret_int HN.out.symm, Below.refl _ _⟩
  · have HE2 : Hid (R = firstE (c.map (litE vs))) := by rw [HE.out, if_neg h40]; rfl
    go_enter Tryz.func85, Tryz.ntmps85
    go_wp2_with fail
    go_loopw [13] (fun i wr => ∃ k : Nat, k ≤ c.length ∧ i = .int .i64 k ∧ Hid (firstE ((c.map (litE vs)).take k) = 0) ∧ Below w.heap.size w wr) (fun i _ => c.length - (intOf i).toNat)
    case atStart => exact ⟨0, by omega, rfl, rfl, Below.refl _ _⟩
    case round =>
      obtain ⟨k, hk, rfl, hall, hbw⟩ := hrel
      by_cases hlt : k < c.length
      · obtain ⟨t, hz⟩ : ∃ z, c[k]? = some z := ⟨c[k], by simp [hlt]⟩
        obtain ⟨b, off, ha, hb, q0, q1, q2⟩ := HV.out k t hz
        have hc0 := (hbw.cell (p := ⟨b, off + k * 3, none⟩) hb).trans q0
        have hc1 := (hbw.cell (p := ⟨b, off + k * 3 + 1, none⟩) hb).trans q1
        have hc2 := (hbw.cell (p := ⟨b, off + k * 3 + 2, none⟩) hb).trans q2
        have hsz := hbw.size
        subst ha
        obtain ⟨er, her⟩ : ∃ er, litE vs t = er := ⟨_, rfl⟩
        have HER : Hid (litE vs t = er) := her
        have HZ : Hid ((c.map (litE vs))[k]? = some er) := by show _ = _; rw [List.getElem?_map, hz, ← her]; rfl
        clear hz q0 q1 q2 her
        go_wp2_with fail
        refine (lit_check vs t _ _ ?_).mono ?_
        · exact HVA.out _ (hbw.alloc hsz _)
        rintro e w2 ⟨rfl, hb2⟩
        rw [HER.out]
        have hB2 : Below w.heap.size w w2 := (hbw.alloc hsz _).trans (hb2.mono (by simp; omega))
        clear hb2
        by_cases he : er = 0
        · subst he
          have HN : Hid (firstE ((c.map (litE vs)).take (k + 1)) = 0) := firstE_step _ k hall.out HZ.out
          go_wp2
          go_roundw
          case rel => exact ⟨k + 1, by omega, by go_num, HN, hB2⟩
          case measure => simp [intOf]; omega
        · have HN : Hid (R = er) := by rw [HE2.out]; exact firstE_hit _ k er hall.out HZ.out he
          have he2 : (er != 0) = true := by simpa using he
          clear he
          go_wp2
          go_ret
          exact ⟨ret_int HN.out.symm, hB2⟩
      · have HN : Hid (R = 0) := by
          have := hall.out
          rw [List.take_of_length_le (by simp; omega)] at this
          rw [HE2.out]; exact this
        go_wp2
        go_ret
        exact ⟨ret_int HN.out.symm, hbw⟩
end Go.Proofs.YtijohkhpigjbkaeGreatDoor
/-
  WALK: package fault: what is wrong with clauses.
-/
namespace Go.Proofs.YtijohkhpigjbkaeGreatDoor
open Go.RowKit

set_option maxHeartbeats 800000 in
set_option maxRecDepth 100000 in
theorem clas_check (vs : List MVar) (l : List Cla) (v u : Value) (w : World) (hv : VArg w v vs) (hu : LLArg w u l) :
    Calls Tryz.prog 88 #[v, u] w fun e w' => e = .returned (.int .i64 (clasE vs l)) ∧ Below w.heap.size w w' := by
  have HVA : Hid (∀ w' : World, Below w.heap.size w w' → VArg w' v vs) := fun w' h => VArg.below h hv
  obtain ⟨a1, c1, rfl, _, _⟩ := hv
  obtain ⟨a, cc, rfl, hm, hr⟩ := hu
  have HV : Hid (∀ (i : Nat) (t : Cla), l[i]? = some t → ∃ b off x, a = some ⟨b, off, none⟩ ∧ b < w.heap.size ∧ w.cell? ⟨b, off + i, none⟩ = some x ∧ LArg w x t) := hr
  unfold maxLen at hm
  obtain ⟨hm1, hm⟩ := hm
  obtain ⟨R, hR⟩ : ∃ R, clasE vs l = R := ⟨_, rfl⟩
  rw [hR]
  have HE : Hid (R = if 600 < l.length then 2 else firstE (l.map (claE vs))) := by rw [← hR]; rfl
  clear hR hr
  by_cases h40 : 600 < l.length
  · have HN : Hid (R = 2) := by rw [HE.out, if_pos h40]; rfl
    go_enter Tryz.func88, Tryz.ntmps88
    go_wp2
    go_ret
    exact ⟨ret_int HN.out.symm, Below.refl _ _⟩
  · have HE2 : Hid (R = firstE (l.map (claE vs))) := by rw [HE.out, if_neg h40]; rfl
    go_enter Tryz.func88, Tryz.ntmps88
    go_wp2_with fail
    go_loopw [13] (fun i wr => ∃ k : Nat, k ≤ l.length ∧ i = .int .i64 k ∧ Hid (firstE ((l.map (claE vs)).take k) = 0) ∧ Below w.heap.size w wr) (fun i _ => l.length - (intOf i).toNat)
    case atStart => exact ⟨0, by omega, rfl, rfl, Below.refl _ _⟩
    case round =>
      obtain ⟨k, hk, rfl, hall, hbw⟩ := hrel
      by_cases hlt : k < l.length
      · obtain ⟨t, hz⟩ : ∃ z, l[k]? = some z := ⟨l[k], by simp [hlt]⟩
        obtain ⟨b, off, x, ha, hb, q0, hx⟩ := HV.out k t hz
        have HX : Hid (LArg wr x t) := LArg.below hbw hx
        obtain ⟨a5, c5, rfl, _, _⟩ := hx
        have hc0 := (hbw.cell (p := ⟨b, off + k, none⟩) hb).trans q0
        subst ha
        obtain ⟨er, her⟩ : ∃ er, claE vs t = er := ⟨_, rfl⟩
        have HER : Hid (claE vs t = er) := her
        have HZ : Hid ((l.map (claE vs))[k]? = some er) := by show _ = _; rw [List.getElem?_map, hz, ← her]; rfl
        clear hz q0 her
        go_wp2_with fail
        refine (cla_check vs t _ _ _ (HVA.out _ hbw) HX.out).mono ?_
        rintro e w2 ⟨rfl, hb2⟩
        rw [HER.out]
        have hB2 : Below w.heap.size w w2 := hbw.trans (hb2.mono hbw.size)
        clear hb2
        by_cases he : er = 0
        · subst he
          have HN : Hid (firstE ((l.map (claE vs)).take (k + 1)) = 0) := firstE_step _ k hall.out HZ.out
          go_wp2
          go_roundw
          case rel => exact ⟨k + 1, by omega, by go_num, HN, hB2⟩
          case measure => simp [intOf]; omega
        · have HN : Hid (R = er) := by rw [HE2.out]; exact firstE_hit _ k er hall.out HZ.out he
          have he2 : (er != 0) = true := by simpa using he
          clear he
          go_wp2
          go_ret
          exact ⟨ret_int HN.out.symm, hB2⟩
      · have HN : Hid (R = 0) := by
          have := hall.out
          rw [List.take_of_length_le (by simp; omega)] at this
          rw [HE2.out]; exact this
        go_wp2
        go_ret
        exact ⟨ret_int HN.out.symm, hbw⟩
end Go.Proofs.YtijohkhpigjbkaeGreatDoor
/-
  WALKS: package lit: opposite, Check, Holds, Not.
-/
namespace Go.Proofs.YtijohkhpigjbkaeGreatDoor
open Go.RowKit

theorem ret_lit {a b : MLit} {x y : Int} (h : a = b) (k : x = y) : Ending.returned (.tuple #[.agg #[.int .i64 a.var, .int .i64 a.op, .int .i64 a.n], .int .i64 x]) = .returned (.tuple #[.agg #[.int .i64 b.var, .int .i64 b.op, .int .i64 b.n], .int .i64 y]) := by rw [h, k]
set_option maxHeartbeats 800000 in
set_option maxRecDepth 100000 in
theorem opp_any (l : MLit) (w : World) (h1 : 1 ≤ l.op ∧ l.op ≤ 4) (h2 : -1000 ≤ l.n ∧ l.n ≤ 1000) :
    Calls Tryz.prog 94 #[.agg #[.int .i64 l.var, .int .i64 l.op, .int .i64 l.n]] w fun e w' => e = .returned (.agg #[.int .i64 (oppL l).var, .int .i64 (oppL l).op, .int .i64 (oppL l).n]) ∧ Below w.heap.size w w' := by
  obtain ⟨v, op, n⟩ := l
  simp only at h1 h2
  obtain ⟨h21, h22⟩ := h2
  rcases (show op = 1 ∨ op = 2 ∨ op = 3 ∨ op = 4 by omega) with rfl | rfl | rfl | rfl
  all_goals
    clear h1
    go_enter Tryz.func94, Tryz.ntmps94
    go_wp2
    refine bodyPost_ret (by simp [results, Tryz.results94, go_sem]; exact ⟨rfl, rfl, rfl⟩) rfl ⟨rfl, ?_⟩
    exact (below_alloc _ _).alloc (by simp) _

set_option maxHeartbeats 800000 in
set_option maxRecDepth 100000 in
theorem lcheck_any (m : Mod) (l : MLit) (vs cs : Value) (w : World) (hm : MArg w vs cs m) :
    Calls Tryz.prog 52 #[modV vs cs m, .agg #[.int .i64 l.var, .int .i64 l.op, .int .i64 l.n]] w fun e w' => e = .returned (.int .i64 (lcheckA m l)) ∧ Below w.heap.size w w' := by
  have HMA : Hid (∀ w' : World, Below w.heap.size w w' → MArg w' vs cs m) := fun w' h => MArg.below h hm
  obtain ⟨⟨a1, c1, rfl, _, _⟩, ⟨a2, c2, rfl, _, _⟩⟩ := hm
  obtain ⟨R, hR⟩ : ∃ R, lcheckA m l = R := ⟨_, rfl⟩
  rw [hR]
  obtain ⟨er, her⟩ : ∃ er, checkM m = er := ⟨_, rfl⟩
  have HER : Hid (checkM m = er) := her
  have HE : Hid (R = if er = 0 then litE m.vars l else er) := by rw [← hR, ← her]; rfl
  clear hR her
  unfold modV
  go_enter Tryz.func52, Tryz.ntmps52
  go_wp2_with fail
  refine (check_model m (.slice a1 m.vars.length c1) (.slice a2 m.cons.length c2) _ ?_).mono ?_
  · exact HMA.out _ ((below_alloc _ _).alloc (by simp) _)
  rintro e w1 ⟨rfl, hb1⟩
  rw [HER.out]
  have g0 : w1.cell? ⟨w.heap.size, 0, none⟩ = some (.slice a1 m.vars.length c1) := (hb1.cell (by simp; omega)).trans (by simp)
  have d0 : w1.cell? ⟨w.heap.size + 1, 0, none⟩ = some (.int .i64 l.var) := (hb1.cell (by simp)).trans (World.cell?_alloc_at _ _ _ 0 (by simp))
  have d1 : w1.cell? ⟨w.heap.size + 1, 1, none⟩ = some (.int .i64 l.op) := (hb1.cell (by simp)).trans (World.cell?_alloc_at _ _ _ 1 (by simp))
  have d2 : w1.cell? ⟨w.heap.size + 1, 2, none⟩ = some (.int .i64 l.n) := (hb1.cell (by simp)).trans (World.cell?_alloc_at _ _ _ 2 (by simp))
  have HB1 : Hid (Below w.heap.size w w1) := ((below_alloc _ _).alloc (by simp) _).trans (hb1.mono (by simp; omega))
  clear hb1
  by_cases he : er = 0
  · subst he
    have HN : Hid (R = litE m.vars l) := by rw [HE.out, if_pos rfl]; rfl
    go_wp2_with fail
    refine (lit_check m.vars l _ _ (HMA.out _ HB1.out).1).mono ?_
    rintro e w2 ⟨rfl, hb2⟩
    have hb3 : Below w.heap.size w w2 := HB1.out.trans (hb2.mono HB1.out.size)
    clear hb2
    go_wp2
    go_ret
    exact ⟨ret_int HN.out.symm, hb3⟩
  · have HN : Hid (R = er) := by rw [HE.out, if_neg he]; rfl
    have he2 : (er != 0) = true := by simpa using he
    clear he
    go_wp2
    go_ret
    exact ⟨ret_int HN.out.symm, HB1.out⟩
end Go.Proofs.YtijohkhpigjbkaeGreatDoor
/-
  WALKS: package store: Meet.
-/
namespace Go.Proofs.YtijohkhpigjbkaeGreatDoor
open Go.RowKit

def meetA (m : Mod) (s t : Sto) : Sto × Int := if checkL m [s, t] = 0 then (meetS s t, 0) else ([], checkL m [s, t])
theorem rows_short (m : Mod) (s : Sto) (hm : checkM m = 0) (hs : checkV m.vars s = 0) : s.length ≤ 6 ∧ ∀ r ∈ s, r.length ≤ 6 := by
  have h1 := (checkM_vars m hm).2.1
  have h2 := ((checkV_ok _ _).1 hs).1
  refine ⟨by omega, fun r hr => ?_⟩
  obtain ⟨i, hi⟩ := List.mem_iff_getElem?.1 hr
  exact row_short m s hm hs i r hi

end Go.Proofs.YtijohkhpigjbkaeGreatDoor
/-
  WALKS: package lit: Holds, Not, checkIn, Told, Put.
-/
namespace Go.Proofs.YtijohkhpigjbkaeGreatDoor
open Go.RowKit

theorem blk_cell {w : World} {b : Nat} {cs : Array Value} {t : TypeId} (h : w.heap[b]? = some (.cells cs t)) (i : Nat) (v : Value) (hv : cs[i]? = some v) : w.cell? ⟨b, i, none⟩ = some v := by
  rw [Lib.cell_of_heap h]; exact hv
theorem blk_frozen {w : World} {b : Nat} {cs : Array Value} {t : TypeId} (h : w.heap[b]? = some (.cells cs t)) (i : Nat) : w.frozen? ⟨b, i, none⟩ = false := by
  unfold World.frozen?
  simp only [h]
  simp
theorem blocks3 (w : World) (o1 o2 o3 : Obj) : (((w.alloc o1).alloc o2).alloc o3).heap[w.heap.size]? = some o1 ∧ (((w.alloc o1).alloc o2).alloc o3).heap[w.heap.size + 1]? = some o2 ∧ (((w.alloc o1).alloc o2).alloc o3).heap[w.heap.size + 2]? = some o3 := by
  refine ⟨?_, ?_, ?_⟩
  all_goals
    show (((w.heap.push _).push _).push _)[_]? = _
    simp only [Array.getElem?_push, Array.size_push]
    repeat first | rw [if_pos (by omega)] | rw [if_neg (by omega)]
  all_goals simp
theorem below2 (w : World) (o1 o2 : Obj) : Below w.heap.size w ((w.alloc o1).alloc o2) := (below_alloc _ _).alloc (by simp) _

set_option maxHeartbeats 800000 in
set_option maxRecDepth 100000 in
theorem lholds_any (m : Mod) (l : MLit) (x : Int) (vs cs : Value) (w : World) (hm : MArg w vs cs m) :
    Calls Tryz.prog 48 #[modV vs cs m, .agg #[.int .i64 l.var, .int .i64 l.op, .int .i64 l.n], .int .i64 x] w fun e w' => e = .returned (.tuple #[.bool (lholdsA m l x).1, .int .i64 (lholdsA m l x).2]) ∧ Below w.heap.size w w' := by
  have HMA : Hid (∀ w' : World, Below w.heap.size w w' → MArg w' vs cs m) := fun w' h => MArg.below h hm
  obtain ⟨⟨a1, c1, rfl, _, _⟩, ⟨a2, c2, rfl, _, _⟩⟩ := hm
  obtain ⟨R, hR⟩ : ∃ R, lholdsA m l x = R := ⟨_, rfl⟩
  rw [hR]
  obtain ⟨er, her⟩ : ∃ er, lcheckA m l = er := ⟨_, rfl⟩
  have HER : Hid (lcheckA m l = er) := her
  have HE : Hid (R = if er = 0 then (litV x l, 0) else (false, er)) := by rw [← hR, ← her]; rfl
  clear hR her
  unfold modV
  go_enter Tryz.func48, Tryz.ntmps48
  go_wp2_with fail
  refine (lcheck_any m l (.slice a1 m.vars.length c1) (.slice a2 m.cons.length c2) _ ?_).mono ?_
  · exact HMA.out _ (below2 _ _ _)
  rintro e w1 ⟨rfl, hb1⟩
  rw [HER.out]
  have d0 : w1.cell? ⟨w.heap.size + 1, 0, none⟩ = some (.int .i64 l.var) := (hb1.cell (by simp)).trans (World.cell?_alloc_at _ _ _ 0 (by simp))
  have d1 : w1.cell? ⟨w.heap.size + 1, 1, none⟩ = some (.int .i64 l.op) := (hb1.cell (by simp)).trans (World.cell?_alloc_at _ _ _ 1 (by simp))
  have d2 : w1.cell? ⟨w.heap.size + 1, 2, none⟩ = some (.int .i64 l.n) := (hb1.cell (by simp)).trans (World.cell?_alloc_at _ _ _ 2 (by simp))
  have HB1 : Hid (Below w.heap.size w w1) := (below2 _ _ _).trans (hb1.mono (by simp; omega))
  have hs1 : w.heap.size + 2 ≤ w1.heap.size := by simpa using hb1.size
  clear hb1
  by_cases he : er = 0
  · subst he
    have HN : Hid (R = (litV x l, 0)) := by rw [HE.out, if_pos rfl]; rfl
    go_wp2_with fail
    refine (lit_true l x _).mono ?_
    rintro e w2 ⟨rfl, hb2⟩
    have hb3 : Below w.heap.size w w2 := HB1.out.trans (hb2.mono HB1.out.size)
    clear hb2
    go_wp2
    go_ret2
    exact ⟨by rw [HN.out]; rfl, hb3⟩
  · have HN : Hid (R = (false, er)) := by rw [HE.out, if_neg he]; rfl
    have he2 : (er != 0) = true := by simpa using he
    clear he
    go_wp2
    go_ret2
    exact ⟨by rw [HN.out]; rfl, HB1.out⟩

set_option maxHeartbeats 1600000 in
set_option maxRecDepth 100000 in
theorem lnot_any (m : Mod) (l : MLit) (vs cs : Value) (w : World) (hm : MArg w vs cs m) :
    Calls Tryz.prog 49 #[modV vs cs m, .agg #[.int .i64 l.var, .int .i64 l.op, .int .i64 l.n]] w fun e w' => e = .returned (.tuple #[.agg #[.int .i64 (lnotA m l).1.var, .int .i64 (lnotA m l).1.op, .int .i64 (lnotA m l).1.n], .int .i64 (lnotA m l).2]) ∧ Below w.heap.size w w' := by
  have HMA : Hid (∀ w' : World, Below w.heap.size w w' → MArg w' vs cs m) := fun w' h => MArg.below h hm
  obtain ⟨⟨a1, c1, rfl, _, _⟩, ⟨a2, c2, rfl, _, _⟩⟩ := hm
  obtain ⟨R, hR⟩ : ∃ R, lnotA m l = R := ⟨_, rfl⟩
  rw [hR]
  obtain ⟨er, her⟩ : ∃ er, lcheckA m l = er := ⟨_, rfl⟩
  have HER : Hid (lcheckA m l = er) := her
  have HE : Hid (R = if er = 0 then (if litE m.vars (oppL l) = 0 then (oppL l, 0) else (noLit, litE m.vars (oppL l))) else (noLit, er)) := by rw [← hR, ← her]; rfl
  clear hR her
  unfold modV
  go_enter Tryz.func49, Tryz.ntmps49
  go_wp2_with fail
  refine (lcheck_any m l (.slice a1 m.vars.length c1) (.slice a2 m.cons.length c2) _ ?_).mono ?_
  · exact HMA.out _ (((below_alloc _ _).alloc (by simp) _).alloc (by simp; omega) _)
  rintro e w1 ⟨rfl, hb1⟩
  rw [HER.out]
  obtain ⟨HA, HB, HC⟩ := blocks3 w (.cells #[.slice a1 m.vars.length c1, .slice a2 m.cons.length c2, .int .i64 m.goal, .int .i64 m.var] 25) (.cells #[.int .i64 l.var, .int .i64 l.op, .int .i64 l.n] 42) (.cells #[.int .i64 0, .int .i64 0, .int .i64 0] 42)
  have HA1 : Hid (w1.heap[w.heap.size]? = _) := (hb1.block _ (by simp; omega)).trans HA
  have HB1' := (hb1.block _ (by simp)).trans HB
  have HC1 : Hid (w1.heap[w.heap.size + 2]? = _) := (hb1.block _ (by simp)).trans HC
  have g0 := blk_cell HA1.out 0 _ rfl
  have d0 := blk_cell HB1' 0 _ rfl
  have d1 := blk_cell HB1' 1 _ rfl
  have d2 := blk_cell HB1' 2 _ rfl
  have HB1 : Hid (Below w.heap.size w w1) := (((below_alloc _ _).alloc (by simp) _).alloc (by simp; omega) _).trans (hb1.mono (by simp; omega))
  have hs1 : w.heap.size + 3 ≤ w1.heap.size := by simpa using hb1.size
  clear hb1 HA HB HC HB1'
  by_cases he : er = 0
  · subst he
    obtain ⟨_, q2, q3⟩ := (litE_ok _ _).1 (lcheck_ok m l HER.out).2
    have HN0 : Hid (R = if litE m.vars (oppL l) = 0 then (oppL l, 0) else (noLit, litE m.vars (oppL l))) := by rw [HE.out, if_pos rfl]; rfl
    go_wp2_with fail
    refine (opp_any l _ q2 q3).mono ?_
    rintro e w2 ⟨rfl, hb2⟩
    have HC2 : Hid (w2.heap[w.heap.size + 2]? = _) := (hb2.block _ (by omega)).trans HC1.out
    have k0 := (hb2.cell (p := ⟨w.heap.size, 0, none⟩) (by simp only; omega)).trans g0
    have HB2 : Hid (Below w.heap.size w w2) := HB1.out.trans (hb2.mono HB1.out.size)
    have hs2 : w.heap.size + 3 ≤ w2.heap.size := by have := hb2.size; omega
    have hlt0 : w.heap.size < w2.heap.size := by omega
    obtain ⟨o, ho⟩ : ∃ o, oppL l = o := ⟨_, rfl⟩
    rw [ho] at HN0 ⊢
    clear hb2 g0 d0 d1 d2 q2 q3 ho HE HER HC1 HA1
    go_wp2_with fail
    refine (lit_check m.vars o _ _ (HMA.out _ (HB2.out.alloc HB2.out.size _)).1).mono ?_
    rintro e w3 ⟨rfl, hb3⟩
    have HC3 := (hb3.block (w.heap.size + 2) (by simp; omega)).trans ((Below.heap_alloc _ _ _ (by omega)).trans HC2.out)
    have r0 := blk_cell HC3 0 _ rfl
    have r1 := blk_cell HC3 1 _ rfl
    have r2 := blk_cell HC3 2 _ rfl
    have z0 := blk_frozen HC3 0
    have z1 := blk_frozen HC3 1
    have z2 := blk_frozen HC3 2
    have f0 : w3.cell? ⟨w2.heap.size, 0, none⟩ = some (.int .i64 o.var) := (hb3.cell (by simp)).trans (by simp)
    have f1 : w3.cell? ⟨w2.heap.size, 1, none⟩ = some (.int .i64 o.op) := (hb3.cell (by simp)).trans (by simp)
    have f2 : w3.cell? ⟨w2.heap.size, 2, none⟩ = some (.int .i64 o.n) := (hb3.cell (by simp)).trans (by simp)
    have HB3 : Hid (Below w.heap.size w w3) := (HB2.out.alloc HB2.out.size _).trans (hb3.mono (by simp; omega))
    have hs3 : w2.heap.size + 1 ≤ w3.heap.size := by simpa using hb3.size
    obtain ⟨f, hf⟩ : ∃ f, litE m.vars o = f := ⟨_, rfl⟩
    rw [hf] at HN0 ⊢
    clear hb3 hf HC3 HC2
    by_cases hf0 : f = 0
    · subst hf0
      have HN : Hid (R = (o, 0)) := by rw [HN0.out, if_pos rfl]; rfl
      go_wp2
      refine bodyPost_ret (by simp [results, Tryz.results49, go_sem, *]; try rfl) rfl ⟨by rw [HN.out] <;> rfl, ?_⟩
      exact ((HB3.out.setCell (by simp only; omega) _).setCell (by simp only; omega) _).setCell (by simp only; omega) _
    · have HN : Hid (R = (noLit, f)) := by rw [HN0.out, if_neg hf0]; rfl
      have he2 : (f != 0) = true := by simpa using hf0
      clear hf0
      go_wp2
      refine bodyPost_ret (by simp [results, Tryz.results49, go_sem, *]; try rfl) rfl ⟨by rw [HN.out] <;> rfl, ?_⟩
      exact ((HB3.out.setCell (by simp only; omega) _).setCell (by simp only; omega) _).setCell (by simp only; omega) _
  · have HN : Hid (R = (noLit, er)) := by rw [HE.out, if_neg he]; rfl
    have he2 : (er != 0) = true := by simpa using he
    have r0 := blk_cell HC1.out 0 _ rfl
    have r1 := blk_cell HC1.out 1 _ rfl
    have r2 := blk_cell HC1.out 2 _ rfl
    have z0 := blk_frozen HC1.out 0
    have z1 := blk_frozen HC1.out 1
    have z2 := blk_frozen HC1.out 2
    clear he
    go_wp2
    refine bodyPost_ret (by simp [results, Tryz.results49, go_sem, *]; try rfl) rfl ⟨by rw [HN.out] <;> rfl, ?_⟩
    exact ((HB1.out.setCell (by simp only; omega) _).setCell (by simp only; omega) _).setCell (by simp only; omega) _

set_option maxHeartbeats 800000 in
set_option maxRecDepth 100000 in
theorem lin_any (m : Mod) (s : Sto) (l : MLit) (vs cs v : Value) (w : World) (hm : MArg w vs cs m) (hv : RArg w v s) :
    Calls Tryz.prog 96 #[modV vs cs m, v, .agg #[.int .i64 l.var, .int .i64 l.op, .int .i64 l.n]] w fun e w' => e = .returned (.int .i64 (linE m s l)) ∧ Below w.heap.size w w' := by
  have HMA : Hid (∀ w' : World, Below w.heap.size w w' → MArg w' vs cs m) := fun w' h => MArg.below h hm
  have HVA : Hid (∀ w' : World, Below w.heap.size w w' → RArg w' v s) := fun w' h => RArg.below h hv
  obtain ⟨⟨a1, c1, rfl, _, _⟩, ⟨a2, c2, rfl, _, _⟩⟩ := hm
  obtain ⟨a3, c3, rfl, _, _⟩ := hv
  obtain ⟨R, hR⟩ : ∃ R, linE m s l = R := ⟨_, rfl⟩
  rw [hR]
  obtain ⟨er, her⟩ : ∃ er, checkL m [s] = er := ⟨_, rfl⟩
  have HER : Hid (checkL m [s] = er) := her
  have HE : Hid (R = if er = 0 then litE m.vars l else er) := by rw [← hR, ← her]; rfl
  clear hR her
  unfold modV
  go_enter Tryz.func96, Tryz.ntmps96
  go_wp2_with fail
  refine (scheck_any m s (.slice a1 m.vars.length c1) (.slice a2 m.cons.length c2) _ _ ?_ ?_).mono ?_
  · exact HMA.out _ (below2 _ _ _)
  · exact HVA.out _ (below2 _ _ _)
  rintro e w1 ⟨rfl, hb1⟩
  rw [HER.out]
  have g0 : w1.cell? ⟨w.heap.size, 0, none⟩ = some (.slice a1 m.vars.length c1) := (hb1.cell (by simp; omega)).trans (by simp)
  have d0 : w1.cell? ⟨w.heap.size + 1, 0, none⟩ = some (.int .i64 l.var) := (hb1.cell (by simp)).trans (World.cell?_alloc_at _ _ _ 0 (by simp))
  have d1 : w1.cell? ⟨w.heap.size + 1, 1, none⟩ = some (.int .i64 l.op) := (hb1.cell (by simp)).trans (World.cell?_alloc_at _ _ _ 1 (by simp))
  have d2 : w1.cell? ⟨w.heap.size + 1, 2, none⟩ = some (.int .i64 l.n) := (hb1.cell (by simp)).trans (World.cell?_alloc_at _ _ _ 2 (by simp))
  have HB1 : Hid (Below w.heap.size w w1) := (below2 _ _ _).trans (hb1.mono (by simp; omega))
  have hs1 : w.heap.size + 2 ≤ w1.heap.size := by simpa using hb1.size
  clear hb1
  by_cases he : er = 0
  · subst he
    have HN : Hid (R = litE m.vars l) := by rw [HE.out, if_pos rfl]; rfl
    go_wp2_with fail
    refine (lit_check m.vars l _ _ (HMA.out _ HB1.out).1).mono ?_
    rintro e w2 ⟨rfl, hb2⟩
    have hb3 : Below w.heap.size w w2 := HB1.out.trans (hb2.mono HB1.out.size)
    clear hb2
    go_wp2
    go_ret
    exact ⟨ret_int HN.out.symm, hb3⟩
  · have HN : Hid (R = er) := by rw [HE.out, if_neg he]; rfl
    have he2 : (er != 0) = true := by simpa using he
    clear he
    go_wp2
    go_ret
    exact ⟨ret_int HN.out.symm, HB1.out⟩
end Go.Proofs.YtijohkhpigjbkaeGreatDoor
/-
  PLAIN: what is learned. WALKS: package learn: check, opposites.
-/
namespace Go.Proofs.YtijohkhpigjbkaeGreatDoor
open Go.RowKit

/-- K3: what is wrong, but for opposites. -/
def learnE (m : Mod) (l : List Cla) (d : Cla) : Int := if checkM m = 0 then (if clasE m.vars l = 0 then claE m.vars d else clasE m.vars l) else checkM m
def oppsN (m : Mod) : Cla → Cla → Cla × Int
  | [], out => (out, 0)
  | x :: r, out => if (lnotA m x).2 = 0 then oppsN m r (out ++ [(lnotA m x).1]) else ([], (lnotA m x).2)
/-- What learned answers, but for the rules. -/
def learnedA (m : Mod) (l : List Cla) (d : Cla) : Cla × Bool × Int :=
  if learnE m l d = 0 then
    (if (oppsN m d []).2 = 0 then ((leastA m.vars (l.map (heldP m.vars)) (ptsM m) (oppsN m d []).1).1, (leastA m.vars (l.map (heldP m.vars)) (ptsM m) (oppsN m d []).1).2, 0) else ([], false, (oppsN m d []).2))
  else ([], false, learnE m l d)
theorem opps_len (m : Mod) : ∀ (d out : Cla), (oppsN m d out).1.length ≤ out.length + d.length
  | [], out => by simp [oppsN]
  | x :: r, out => by
    unfold oppsN
    split
    · have := opps_len m r (out ++ [(lnotA m x).1])
      rw [List.length_append] at this
      simp at *
      omega
    · simp
theorem claE_len (vs : List MVar) (c : Cla) (h : claE vs c = 0) : c.length ≤ 40 := by
  unfold claE at h
  by_cases h1 : 40 < c.length
  · rw [if_pos h1] at h; cases h
  · omega
theorem clasE_len (vs : List MVar) (l : List Cla) (h : clasE vs l = 0) : l.length ≤ 600 := by
  unfold clasE at h
  by_cases h1 : 600 < l.length
  · rw [if_pos h1] at h; cases h
  · omega
theorem learnE_zero (m : Mod) (l : List Cla) (d : Cla) (h : learnE m l d = 0) : checkM m = 0 ∧ clasE m.vars l = 0 ∧ claE m.vars d = 0 := by
  unfold learnE at h
  by_cases h1 : checkM m = 0
  · rw [if_pos h1] at h
    by_cases h2 : clasE m.vars l = 0
    · rw [if_pos h2] at h; exact ⟨h1, h2, h⟩
    · rw [if_neg h2] at h; exact absurd h h2
  · rw [if_neg h1] at h; exact absurd h h1

set_option maxHeartbeats 800000 in
set_option maxRecDepth 100000 in
theorem lcheck_learn (m : Mod) (l : List Cla) (d : Cla) (vs cs u v : Value) (w : World) (hma : MArg w vs cs m) (hu : LLArg w u l) (hv : LArg w v d) :
    Calls Tryz.prog 122 #[modV vs cs m, u, v] w fun e w' => e = .returned (.int .i64 (learnE m l d)) ∧ Below w.heap.size w w' := by
  have HMA : Hid (∀ w' : World, Below w.heap.size w w' → MArg w' vs cs m) := fun w' h => MArg.below h hma
  have HU : Hid (∀ w' : World, Below w.heap.size w w' → LLArg w' u l) := fun w' h => LLArg.below h hu
  have HV : Hid (∀ w' : World, Below w.heap.size w w' → LArg w' v d) := fun w' h => LArg.below h hv
  obtain ⟨⟨a1, c1, rfl, _, _⟩, ⟨a2, c2, rfl, _, _⟩⟩ := hma
  obtain ⟨a3, c3, rfl, _, _⟩ := hu
  obtain ⟨a4, c4, rfl, _, _⟩ := hv
  obtain ⟨R, hR⟩ : ∃ R, learnE m l d = R := ⟨_, rfl⟩
  rw [hR]
  obtain ⟨er, her⟩ : ∃ er, checkM m = er := ⟨_, rfl⟩
  obtain ⟨e2, he2⟩ : ∃ e2, clasE m.vars l = e2 := ⟨_, rfl⟩
  have HER : Hid (checkM m = er) := her
  have HE2 : Hid (clasE m.vars l = e2) := he2
  have HE : Hid (R = if er = 0 then (if e2 = 0 then claE m.vars d else e2) else er) := by show _ = _; rw [← hR, ← her, ← he2]; rfl
  unfold modV
  clear hR her he2
  go_enter Tryz.func122, Tryz.ntmps122
  go_wp2_with fail
  refine (check_model m (.slice a1 m.vars.length c1) (.slice a2 m.cons.length c2) _ ?_).mono ?_
  · exact HMA.out _ (below_alloc _ _)
  rintro e w1 ⟨rfl, hb1⟩
  rw [HER.out]
  have g0 : w1.cell? ⟨w.heap.size, 0, none⟩ = some (.slice a1 m.vars.length c1) := (hb1.cell (by simp)).trans (by simp)
  have HB1 : Hid (Below w.heap.size w w1) := (below_alloc _ _).trans (hb1.mono (by simp))
  have HL1 : Hid (w.heap.size < w1.heap.size) := by have := hb1.size; simp at this; show _ < _; omega
  clear hb1
  by_cases he : er = 0
  · subst he
    go_wp2_with fail
    refine (clas_check m.vars l _ _ _ (HMA.out _ HB1.out).1 (HU.out _ HB1.out)).mono ?_
    rintro e w2 ⟨rfl, hb2⟩
    rw [HE2.out]
    have g1 : w2.cell? ⟨w.heap.size, 0, none⟩ = some (.slice a1 m.vars.length c1) := (hb2.cell HL1.out).trans g0
    have HB2 : Hid (Below w.heap.size w w2) := HB1.out.trans (hb2.mono HB1.out.size)
    clear hb2 g0
    by_cases hq : e2 = 0
    · subst hq
      have HN : Hid (R = claE m.vars d) := HE.out
      go_wp2_with fail
      refine (cla_check m.vars d _ _ _ (HMA.out _ HB2.out).1 (HV.out _ HB2.out)).mono ?_
      rintro e w3 ⟨rfl, hb3⟩
      have HB3 : Hid (Below w.heap.size w w3) := HB2.out.trans (hb3.mono HB2.out.size)
      clear hb3
      go_wp2
      go_ret
      exact ⟨ret_int HN.out.symm, HB3.out⟩
    · have HN : Hid (R = e2) := by have h1 := HE.out; simp only [if_true, if_neg hq] at h1; exact h1
      have hq2 : (e2 != 0) = true := by simpa using hq
      clear hq
      go_wp2
      go_ret
      exact ⟨ret_int HN.out.symm, HB2.out⟩
  · have HN : Hid (R = er) := by show _ = _; rw [HE.out, if_neg he]
    have he2 : (er != 0) = true := by simpa using he
    clear he
    go_wp2
    go_ret
    exact ⟨ret_int HN.out.symm, HB1.out⟩

set_option maxHeartbeats 1600000 in
set_option maxRecDepth 100000 in
theorem opps_any (m : Mod) (d : Cla) (hd : d.length ≤ 40) (vs cs v : Value) (w : World) (hma : MArg w vs cs m) (hv : LArg w v d) :
    Calls Tryz.prog 123 #[modV vs cs m, v] w fun e w' => ∃ x, e = .returned (.tuple #[x, .int .i64 (oppsN m d []).2]) ∧ LOwn w.heap.size w' x (oppsN m d []).1 ∧ Below w.heap.size w w' := by
  have HMA : Hid (∀ w' : World, Below w.heap.size w w' → MArg w' vs cs m) := fun w' h => MArg.below h hma
  have HV : Hid (∀ w' : World, Below w.heap.size w w' → LArg w' v d) := fun w' h => LArg.below h hv
  obtain ⟨⟨a1, c1, rfl, _, _⟩, ⟨a2, c2, rfl, _, _⟩⟩ := hma
  obtain ⟨a4, c4, rfl, hm4, _⟩ := hv
  unfold maxLen at hm4
  obtain ⟨hm41, hm42⟩ := hm4
  obtain ⟨R, hR⟩ : ∃ R, oppsN m d [] = R := ⟨_, rfl⟩
  have HR : Hid (R = oppsN m d []) := hR.symm
  rw [hR]
  unfold modV
  clear hR
  have HB0 : Hid (Below w.heap.size w (w.alloc (.cells #[.slice a1 m.vars.length c1, .slice a2 m.cons.length c2, .int .i64 m.goal, .int .i64 m.var] 25))) := below_alloc _ _
  have HMB : Hid ((w.alloc (.cells #[.slice a1 m.vars.length c1, .slice a2 m.cons.length c2, .int .i64 m.goal, .int .i64 m.var] 25)).heap[w.heap.size]? = some (.cells #[.slice a1 m.vars.length c1, .slice a2 m.cons.length c2, .int .i64 m.goal, .int .i64 m.var] 25)) := heap_alloc_new w _
  go_enter Tryz.func123, Tryz.ntmps123
  go_wp2_with fail
  go_loopw [6, 13] (fun o i wr => ∃ k : Nat, k ≤ d.length ∧ i = .int .i64 k ∧ Hid (∃ out : Cla, out.length = k ∧ R = oppsN m (d.drop k) out ∧ LOwn w.heap.size wr o out ∧ Below w.heap.size w wr ∧ wr.heap[w.heap.size]? = some (.cells #[.slice a1 m.vars.length c1, .slice a2 m.cons.length c2, .int .i64 m.goal, .int .i64 m.var] 25))) (fun _ i _ => d.length - (intOf i).toNat)
  case atStart => exact ⟨0, by omega, rfl, [], rfl, HR.out, World.ownsRow_nil _ _ _ _, HB0.out, HMB.out⟩
  case round =>
    obtain ⟨k, hk, rfl, hrest⟩ := hrel
    obtain ⟨out, hlo, hst, ho, hbw, hmb⟩ := hrest.out
    have HLO : Hid (out.length = k) := hlo
    have HST : Hid (R = oppsN m (d.drop k) out) := hst
    have HO : Hid (LOwn w.heap.size wr u6 out) := ho
    have HBW : Hid (Below w.heap.size w wr) := hbw
    have HMBW : Hid (wr.heap[w.heap.size]? = some (.cells #[.slice a1 m.vars.length c1, .slice a2 m.cons.length c2, .int .i64 m.goal, .int .i64 m.var] 25)) := hmb
    obtain ⟨ao, co, hu6⟩ := own_form (show wr.ownsRow _ _ _ _ _ _ from ho)
    rw [hlo] at hu6
    subst hu6
    have k0 : wr.cell? ⟨w.heap.size, 0, none⟩ = some (.slice a1 m.vars.length c1) := blk9 hmb 0 _ rfl
    have k1 : wr.cell? ⟨w.heap.size, 1, none⟩ = some (.slice a2 m.cons.length c2) := blk9 hmb 1 _ rfl
    have k2 : wr.cell? ⟨w.heap.size, 2, none⟩ = some (.int .i64 m.goal) := blk9 hmb 2 _ rfl
    have k3 : wr.cell? ⟨w.heap.size, 3, none⟩ = some (.int .i64 m.var) := blk9 hmb 3 _ rfl
    have kl : w.heap.size < wr.heap.size := (Array.getElem?_eq_some_iff.1 hmb).1
    clear hlo hst ho hbw hmb hrest
    by_cases hlt : k < d.length
    · obtain ⟨t, ht⟩ : ∃ t, d[k]? = some t := ⟨d[k], by simp [hlt]⟩
      obtain ⟨q4, n4, he4, _, hr4⟩ := HV.out _ HBW.out
      injection he4 with he4 he5 he6
      clear he5 he6
      obtain ⟨b4, o4, ha4, hb4, t0, t1, t2⟩ := hr4 k t ht
      rw [ha4] at he4
      subst he4
      have HDK : Hid (d.drop k = t :: d.drop (k + 1)) := by
        show _ = _
        have e : d[k] = t := by rw [List.getElem?_eq_getElem hlt] at ht; exact Option.some.inj ht
        rw [List.drop_eq_getElem_cons hlt, e]
      have HNT : Hid (∀ Y, Below w.heap.size w Y → Calls Tryz.prog 49 #[.agg #[.slice a1 m.vars.length c1, .slice a2 m.cons.length c2, .int .i64 m.goal, .int .i64 m.var], .agg #[.int .i64 t.var, .int .i64 t.op, .int .i64 t.n]] Y fun e w' => e = .returned (.tuple #[.agg #[.int .i64 (lnotA m t).1.var, .int .i64 (lnotA m t).1.op, .int .i64 (lnotA m t).1.n], .int .i64 (lnotA m t).2]) ∧ Below Y.heap.size Y w') := fun Y hY => lnot_any m t _ _ Y (HMA.out Y hY)
      obtain ⟨NL, NE, hN⟩ : ∃ NL NE, lnotA m t = (NL, NE) := ⟨_, _, rfl⟩
      have HSTN : Hid (R = if NE = 0 then oppsN m (d.drop (k + 1)) (out ++ [NL]) else ([], NE)) := by show _ = _; rw [HST.out, HDK.out]; show (if (lnotA m t).2 = 0 then oppsN m (d.drop (k + 1)) (out ++ [(lnotA m t).1]) else ([], (lnotA m t).2)) = _; rw [hN]
      rw [hN] at HNT
      dsimp only at HNT
      obtain ⟨nv, hnv⟩ : ∃ nv, NL.var = nv := ⟨_, rfl⟩
      obtain ⟨no, hno⟩ : ∃ no, NL.op = no := ⟨_, rfl⟩
      obtain ⟨nn, hnn⟩ : ∃ nn, NL.n = nn := ⟨_, rfl⟩
      have HNL : Hid (NL = ⟨nv, no, nn⟩) := by show _ = _; rw [← hnv, ← hno, ← hnn]
      rw [hnv, hno, hnn] at HNT
      have HBX : Hid (Below w.heap.size w (wr.alloc (.cells #[.int .i64 t.var, .int .i64 t.op, .int .i64 t.n] 42))) := HBW.out.alloc HBW.out.size _
      clear hr4 ht ha4 hN hnv hno hnn
      go_wp2_with fail
      refine (HNT.out _ HBX.out).mono ?_
      rintro e w2 ⟨rfl, hb2⟩
      have HBR : Hid (Below wr.heap.size wr w2) := (below_alloc _ _).trans (hb2.mono (by simp))
      have HB2 : Hid (Below w.heap.size w w2) := HBW.out.trans (HBR.out.mono HBW.out.size)
      have HO2 : Hid (LOwn w.heap.size w2 (.slice ao k co) out) := own_below HO.out HBR.out
      have HM2 : Hid (w2.heap[w.heap.size]? = some (.cells #[.slice a1 m.vars.length c1, .slice a2 m.cons.length c2, .int .i64 m.goal, .int .i64 m.var] 25)) := (HBR.out.block _ kl).trans HMBW.out
      clear hb2 k0 k1 k2 k3 t0 t1 t2
      by_cases hne : NE = 0
      · subst hne
        have HN2 : Hid (R = oppsN m (d.drop (k + 1)) (out ++ [NL])) := HSTN.out
        have HSA : Hid (LOwn w.heap.size ((w2.alloc (.cells #[.int .i64 nv, .int .i64 no, .int .i64 nn] 42)).alloc (.cells #[.int .i64 nv, .int .i64 no, .int .i64 nn] 42)) (.slice ao k co) out) := World.ownsRow.alloc (World.ownsRow.alloc HO2.out _) _
        have HOA : Hid (((w2.alloc (.cells #[.int .i64 nv, .int .i64 no, .int .i64 nn] 42)).alloc (.cells #[.int .i64 nv, .int .i64 no, .int .i64 nn] 42)).ownsRow w.heap.size 42 3 (.slice ao k co) k (litsCs out)) := by have := HSA.out; unfold LOwn at this; rw [HLO.out] at this; exact this
        have hs2 := HB2.out.size
        obtain ⟨i0, hi0, hz0, hz1, hz2⟩ := info_parts Tryz.infoLit
        go_wp2_with (at_builtin; refine wpList_append_own _ rfl _ _ 29 rfl w.heap.size 42 i0 (.agg #[.int .i64 0, .int .i64 0, .int .i64 0]) 3 24 under_clone_cla hi0 hz0 hz1 hz2 rfl (by decide) _ _ _ rfl HOA.out ⟨w2.heap.size + 1, 0, none⟩ 1 1 (litCs ⟨nv, no, nn⟩) rfl rfl ?c0 (by intro u hu; simp [litCs] at hu; rcases hu with rfl | rfl | rfl <;> rfl) ?c1 ?c2 ?c3 ?_)
        case c0 =>
          have h1 := lit_laid (w2.alloc (.cells #[.int .i64 nv, .int .i64 no, .int .i64 nn] 42)) ⟨nv, no, nn⟩
          rw [World.size_alloc] at h1
          exact h1
        case c1 => unfold maxLen; omega
        case c2 => omega
        case c3 => simp; omega
        intro v6 w6 hown6 hg6 _
        have HO6 : Hid (LOwn w.heap.size w6 v6 (out ++ [NL])) := by
          show World.ownsRow _ _ _ _ _ _ _
          rw [HNL.out]
          unfold litsCs
          rw [List.length_append, HLO.out, List.flatMap_append]
          simpa [litsCs] using hown6
        have HBA : Hid (Below w2.heap.size w2 ((w2.alloc (.cells #[.int .i64 nv, .int .i64 no, .int .i64 nn] 42)).alloc (.cells #[.int .i64 nv, .int .i64 no, .int .i64 nn] 42))) := (below_alloc _ _).alloc (by simp) _
        have HB6 : Hid (Below w.heap.size w w6) := (HB2.out.trans (HBA.out.mono hs2)).grown hg6 (by simp; omega) (fun g hg => (HOA.out.lt g hg).1)
        have HM6 : Hid (w6.heap[w.heap.size]? = some (.cells #[.slice a1 m.vars.length c1, .slice a2 m.cons.length c2, .int .i64 m.goal, .int .i64 m.var] 25)) := blk_grown ((HBA.out.block _ (Array.getElem?_eq_some_iff.1 HM2.out).1).trans HM2.out) hg6 HOA.out (by decide)
        have HL6 : Hid ((out ++ [NL]).length = k + 1) := by show _ = _; rw [List.length_append, HLO.out]; rfl
        obtain ⟨a9, c9, rfl⟩ := own_form hown6
        clear hown6 hg6
        go_wp2
        go_roundw
        case rel => exact ⟨k + 1, by omega, by go_num, out ++ [NL], HL6.out, HN2.out, HO6.out, HB6.out, HM6.out⟩
        case measure => simp [intOf]; omega
      · have HN2 : Hid (R = ([], NE)) := by show _ = _; rw [HSTN.out, if_neg hne]
        have hne2 : (NE != 0) = true := by simpa using hne
        clear hne
        go_wp2
        go_ret2
        exact ⟨_, by rw [HN2.out]; rfl, by rw [HN2.out]; exact World.ownsRow_nil _ _ _ _, Below.alloc HB2.out HB2.out.size _⟩
    · have HE : Hid (R = (out, 0)) := by show _ = _; rw [HST.out, List.drop_eq_nil_of_le (by omega)]; rfl
      go_wp2
      go_ret2
      exact ⟨_, by rw [HE.out]; rfl, by rw [HE.out]; exact HO.out, HBW.out⟩
end Go.Proofs.YtijohkhpigjbkaeGreatDoor
/-
  WALKS: package learn: learned, Learn, Steps.
-/
namespace Go.Proofs.YtijohkhpigjbkaeGreatDoor
open Go.RowKit

set_option maxHeartbeats 3200000 in
set_option maxRecDepth 100000 in
theorem learned_any (m : Mod) (l : List Cla) (d : Cla) (vs cs u v : Value) (w : World) (hma : MArg w vs cs m) (hu : LLArg w u l) (hv : LArg w v d) (hT : TabT w) :
    Calls Tryz.prog 68 #[modV vs cs m, u, v] w fun e w' => ∃ rp x, e = .returned (.tuple #[rp, x, .bool (learnedA m l d).2.1, .int .i64 (learnedA m l d).2.2]) ∧ LOwn w.heap.size w' x (learnedA m l d).1 ∧ (rp = .pointer none ∨ ∃ r, rp = .pointer (some ⟨r, 0, none⟩)) ∧
      ((learnedA m l d).2.1 = true → ∃ r pv cv, rp = .pointer (some ⟨r, 0, none⟩) ∧ RulesAt w' r vs pv cv m.vars (ptsM m) (l.map (heldP m.vars))) ∧ Below w.heap.size w w' := by
  have HMA : Hid (∀ w' : World, Below w.heap.size w w' → MArg w' vs cs m) := fun w' h => MArg.below h hma
  have HU : Hid (∀ w' : World, Below w.heap.size w w' → LLArg w' u l) := fun w' h => LLArg.below h hu
  have HV : Hid (∀ w' : World, Below w.heap.size w w' → LArg w' v d) := fun w' h => LArg.below h hv
  have HT : Hid (∀ w', Below w.heap.size w w' → TabT w') := fun w' h => hT.below h
  obtain ⟨⟨a1, c1, rfl, _, _⟩, ⟨a2, c2, rfl, _, _⟩⟩ := hma
  obtain ⟨a3, c3, rfl, hm3, _⟩ := hu
  obtain ⟨a4, c4, rfl, _, _⟩ := hv
  unfold maxLen at hm3
  obtain ⟨hm31, hm32⟩ := hm3
  obtain ⟨R, hR⟩ : ∃ R, learnedA m l d = R := ⟨_, rfl⟩
  rw [hR]
  obtain ⟨er, her⟩ : ∃ er, learnE m l d = er := ⟨_, rfl⟩
  have HER : Hid (learnE m l d = er) := her
  obtain ⟨OP, OE, hOP⟩ : ∃ OP OE, oppsN m d [] = (OP, OE) := ⟨_, _, rfl⟩
  have HOP : Hid (oppsN m d [] = (OP, OE)) := hOP
  have HE : Hid (R = if er = 0 then (if OE = 0 then ((leastA m.vars (l.map (heldP m.vars)) (ptsM m) OP).1, (leastA m.vars (l.map (heldP m.vars)) (ptsM m) OP).2, 0) else ([], false, OE)) else ([], false, er)) := by
    show _ = _
    rw [← hR]; unfold learnedA; rw [her, hOP]
  unfold modV
  clear hR her hOP hT
  go_enter Tryz.func68, Tryz.ntmps68
  go_wp2_with fail
  have HB0 : Hid (Below w.heap.size w (w.alloc (.cells #[.slice a1 m.vars.length c1, .slice a2 m.cons.length c2, .int .i64 m.goal, .int .i64 m.var] 25))) := below_alloc _ _
  refine (lcheck_learn m l d _ _ _ _ _ (HMA.out _ HB0.out) (HU.out _ HB0.out) (HV.out _ HB0.out)).mono ?_
  rintro e w1 ⟨rfl, hb1⟩
  rw [HER.out]
  have HMB : Hid (w1.heap[w.heap.size]? = some (.cells #[.slice a1 m.vars.length c1, .slice a2 m.cons.length c2, .int .i64 m.goal, .int .i64 m.var] 25)) := (hb1.block w.heap.size (by simp)).trans (heap_alloc_new w _)
  have HB1 : Hid (Below w.heap.size w w1) := HB0.out.trans (hb1.mono HB0.out.size)
  clear hb1
  by_cases he : er = 0
  · subst he
    obtain ⟨hc0, hc1, hc2⟩ := learnE_zero m l d HER.out
    have HM : Hid (checkM m = 0) := hc0
    have HD40 : Hid (d.length ≤ 40) := claE_len _ _ hc2
    have HL6 : Hid (l.length ≤ 600) := clasE_len _ _ hc1
    have k0 : w1.cell? ⟨w.heap.size, 0, none⟩ = some (.slice a1 m.vars.length c1) := blk9 HMB.out 0 _ rfl
    have k1 : w1.cell? ⟨w.heap.size, 1, none⟩ = some (.slice a2 m.cons.length c2) := blk9 HMB.out 1 _ rfl
    have k2 : w1.cell? ⟨w.heap.size, 2, none⟩ = some (.int .i64 m.goal) := blk9 HMB.out 2 _ rfl
    have k3 : w1.cell? ⟨w.heap.size, 3, none⟩ = some (.int .i64 m.var) := blk9 HMB.out 3 _ rfl
    clear hc0 hc1 hc2
    go_wp2_with fail
    refine (opps_any m d HD40.out _ _ _ _ (HMA.out _ HB1.out) (HV.out _ HB1.out)).mono ?_
    rintro e w2 ⟨x, rfl, hx, hb2⟩
    rw [HOP.out] at hx ⊢
    dsimp only at hx ⊢
    have HX : Hid (LOwn w.heap.size w2 x OP) := own_lower HB1.out.size hx
    have HB2 : Hid (Below w.heap.size w w2) := HB1.out.trans (hb2.mono HB1.out.size)
    have HMB2 : Hid (w2.heap[w.heap.size]? = some (.cells #[.slice a1 m.vars.length c1, .slice a2 m.cons.length c2, .int .i64 m.goal, .int .i64 m.var] 25)) := (hb2.block _ (Array.getElem?_eq_some_iff.1 HMB.out).1).trans HMB.out
    obtain ⟨ax, cx, rfl⟩ := own_form (show w2.ownsRow _ _ _ _ _ _ from hx)
    clear hx hb2 k0 k1 k2 k3
    by_cases ho : OE = 0
    · subst ho
      have HE2 : Hid (R = ((leastA m.vars (l.map (heldP m.vars)) (ptsM m) OP).1, (leastA m.vars (l.map (heldP m.vars)) (ptsM m) OP).2, 0)) := HE.out
      have HOL : Hid (OP.length ≤ 900) := by
        have h1 := opps_len m d []
        rw [HOP.out] at h1
        have h2 := HD40.out
        simp at h1
        show _ ≤ _
        omega
      have k0 : w2.cell? ⟨w.heap.size, 0, none⟩ = some (.slice a1 m.vars.length c1) := blk9 HMB2.out 0 _ rfl
      have k1 : w2.cell? ⟨w.heap.size, 1, none⟩ = some (.slice a2 m.cons.length c2) := blk9 HMB2.out 1 _ rfl
      have k2 : w2.cell? ⟨w.heap.size, 2, none⟩ = some (.int .i64 m.goal) := blk9 HMB2.out 2 _ rfl
      have k3 : w2.cell? ⟨w.heap.size, 3, none⟩ = some (.int .i64 m.var) := blk9 HMB2.out 3 _ rfl
      go_wp2_with fail
      refine (of_rules m HM.out _ _ _ (HMA.out _ HB2.out) (HT.out _ HB2.out)).mono ?_
      rintro e w3 ⟨r, pv, rfl, hru, hrd, hrl, hb3⟩
      have HRU : Hid (Rul w3 r (.slice a1 m.vars.length c1) pv m.vars (ptsM m)) := hru
      have HRD : Hid (RulD w3 w3 r (.slice a1 m.vars.length c1) pv (.slice none 0 0) []) := hrd
      have HRL : Hid (w2.heap.size ≤ r) := hrl
      have HB3 : Hid (Below w2.heap.size w2 w3) := hb3
      clear hru hrd hrl hb3 k0 k1 k2 k3
      go_wp2_with fail
      go_loopw [38] (fun i wr => ∃ k : Nat, k ≤ l.length ∧ i = .int .i64 k ∧ Hid (∃ cv, RulD w3 wr r (.slice a1 m.vars.length c1) pv cv ((l.take k).map (heldP m.vars)) ∧ Below w2.heap.size w2 wr)) (fun i _ => l.length - (intOf i).toNat)
      case atStart => exact ⟨0, by omega, rfl, _, HRD.out, HB3.out⟩
      case round =>
        obtain ⟨k, hk, rfl, hrest⟩ := hrel
        obtain ⟨cv, hrd, hbw⟩ := hrest.out
        have HRDW : Hid (RulD w3 wr r (.slice a1 m.vars.length c1) pv cv ((l.take k).map (heldP m.vars))) := hrd
        have HBW : Hid (Below w2.heap.size w2 wr) := hbw
        have HBN : Hid (Below w.heap.size w wr) := HB2.out.trans (hbw.mono HB2.out.size)
        clear hrd hbw hrest
        by_cases hlt : k < l.length
        · obtain ⟨t, ht⟩ : ∃ t, l[k]? = some t := ⟨l[k], by simp [hlt]⟩
          obtain ⟨q4, n4, he4, _, hr4⟩ := HU.out _ HBN.out
          injection he4 with he4 he5 he6
          clear he5 he6
          obtain ⟨b4, o4, y, ha4, hb4, t0, hy⟩ := hr4 k t ht
          rw [ha4] at he4
          subst he4
          have HY : Hid (LArg wr y t) := hy
          obtain ⟨ay, cy, rfl, _, _⟩ := hy
          have HNX : Hid ((l.take k).map (heldP m.vars) ++ [heldP m.vars t] = (l.take (k + 1)).map (heldP m.vars)) := by show _ = _; rw [List.take_add_one, ht, List.map_append]; rfl
          clear hr4 ht ha4
          go_wp2_with fail
          refine (add_any m.vars (vars_all m HM.out) (ptsM m) _ (by rw [List.length_map, List.length_take]; have := HL6.out; omega) t w3 r _ pv cv _ _ HRU.out HRDW.out HY.out).mono ?_
          rintro e w5 ⟨rfl, cv', hrd5, hf5⟩
          have HRD5 : Hid (RulD w3 w5 r (.slice a1 m.vars.length c1) pv cv' ((l.take (k + 1)).map (heldP m.vars))) := by rw [← HNX.out]; exact hrd5
          have HB5 : Hid (Below w2.heap.size w2 w5) := by
            refine ⟨hf5.os.trans HBW.out.os, hf5.tape.trans HBW.out.tape, hf5.output.trans HBW.out.output, Nat.le_trans HBW.out.size hf5.size, fun i hi => (hf5.block i (Nat.lt_of_lt_of_le hi HBW.out.size) (fun hX => ?_)).trans (HBW.out.block i hi)⟩
            rcases hX with hX | hX
            · have := HRL.out; omega
            · have h1 := (HRDW.out.own.lt i hX).1; have h2 := HB3.out.size; omega
          clear hrd5 hf5 t0
          go_wp2
          go_roundw
          case rel => exact ⟨k + 1, by omega, by go_num, cv', HRD5.out, HB5.out⟩
          case measure => simp [intOf]; omega
        · have HRDF : Hid (RulD w3 wr r (.slice a1 m.vars.length c1) pv cv (l.map (heldP m.vars))) := by have h1 := HRDW.out; rw [List.take_of_length_le (by omega)] at h1; exact h1
          have HXW : Hid (LArg wr (.slice ax OP.length cx) OP) := LArg.below HBW.out HX.out.arg
          go_wp2_with fail
          refine (rleast_any m.vars (vars_all m HM.out) (vars_one m HM.out) (l.map (heldP m.vars)) (ptsM m) OP HOL.out r _ pv cv _ _ (HRDF.out.at HRU.out) HXW.out).mono ?_
          rintro e w6 ⟨y, rfl, hy, hb6⟩
          have HY : Hid (LOwn w.heap.size w6 y (leastA m.vars (l.map (heldP m.vars)) (ptsM m) OP).1) := own_lower HBN.out.size hy
          have HB6 : Hid (Below w.heap.size w w6) := HBN.out.trans (hb6.mono HBN.out.size)
          have HRA : Hid (RulesAt w6 r (.slice a1 m.vars.length c1) pv cv m.vars (ptsM m) (l.map (heldP m.vars))) := RulesAt.below hb6 (HRDF.out.at HRU.out)
          obtain ⟨ay, cy, rfl⟩ := own_form (show w6.ownsRow _ _ _ _ _ _ from hy)
          obtain ⟨LA, LB, hLA⟩ : ∃ LA LB, leastA m.vars (l.map (heldP m.vars)) (ptsM m) OP = (LA, LB) := ⟨_, _, rfl⟩
          rw [hLA] at HY HE2 ⊢
          clear hy hb6 hLA
          dsimp only at HY HE2 ⊢
          go_wp2
          refine bodyPost_ret (by simp [results, Tryz.results68, go_sem, *]; try rfl) rfl ?_
          exact ⟨_, _, by rw [HE2.out], by rw [HE2.out]; exact HY.out, Or.inr ⟨r, rfl⟩, fun _ => ⟨r, pv, cv, rfl, HRA.out⟩, HB6.out⟩
    · have HE2 : Hid (R = ([], false, OE)) := by have h1 := HE.out; simp only [if_true, if_neg ho] at h1; exact h1
      have ho2 : (OE != 0) = true := by simpa using ho
      clear ho
      go_wp2
      refine bodyPost_ret (by simp [results, Tryz.results68, go_sem, *]; try rfl) rfl ?_
      exact ⟨_, _, by rw [HE2.out], by rw [HE2.out]; exact World.ownsRow_nil _ _ _ _, Or.inl rfl, (fun hq => by rw [HE2.out] at hq; cases hq), HB2.out⟩
  · have HE2 : Hid (R = ([], false, er)) := by have h1 := HE.out; rw [if_neg he] at h1; exact h1
    have he2 : (er != 0) = true := by simpa using he
    clear he
    go_wp2
    refine bodyPost_ret (by simp [results, Tryz.results68, go_sem, *]; try rfl) rfl ?_
    exact ⟨_, _, by rw [HE2.out], by rw [HE2.out]; exact World.ownsRow_nil _ _ _ _, Or.inl rfl, (fun hq => by rw [HE2.out] at hq; cases hq), HB1.out⟩
end Go.Proofs.YtijohkhpigjbkaeGreatDoor
/-
  WALKS: package learn: Learn, Steps.
-/
namespace Go.Proofs.YtijohkhpigjbkaeGreatDoor
open Go.RowKit

/-- What Steps answers. -/
def lstepsA (m : Mod) (l : List Cla) (d : Cla) : List MStep × Bool × Int :=
  if (learnedA m l d).2.1 then (stepsA m.vars (l.map (heldP m.vars)) (ptsM m) (learnedA m l d).1, true, 0) else ([], false, (learnedA m l d).2.2)

set_option maxHeartbeats 800000 in
set_option maxRecDepth 100000 in
theorem learn_any (m : Mod) (l : List Cla) (d : Cla) (vs cs u v : Value) (w : World) (hma : MArg w vs cs m) (hu : LLArg w u l) (hv : LArg w v d) (hT : TabT w) :
    Calls Tryz.prog 26 #[modV vs cs m, u, v] w fun e w' => ∃ x, e = .returned (.tuple #[x, .bool (learnedA m l d).2.1, .int .i64 (learnedA m l d).2.2]) ∧ LOwn w.heap.size w' x (learnedA m l d).1 ∧ Below w.heap.size w w' := by
  have HMA : Hid (∀ w' : World, Below w.heap.size w w' → MArg w' vs cs m) := fun w' h => MArg.below h hma
  have HU : Hid (∀ w' : World, Below w.heap.size w w' → LLArg w' u l) := fun w' h => LLArg.below h hu
  have HV : Hid (∀ w' : World, Below w.heap.size w w' → LArg w' v d) := fun w' h => LArg.below h hv
  have HT : Hid (∀ w', Below w.heap.size w w' → TabT w') := fun w' h => hT.below h
  obtain ⟨⟨a1, c1, rfl, _, _⟩, ⟨a2, c2, rfl, _, _⟩⟩ := hma
  obtain ⟨a3, c3, rfl, _, _⟩ := hu
  obtain ⟨a4, c4, rfl, _, _⟩ := hv
  obtain ⟨R, hR⟩ : ∃ R, learnedA m l d = R := ⟨_, rfl⟩
  have HR : Hid (learnedA m l d = R) := hR
  rw [hR]
  unfold modV
  clear hR hT
  have HB0 : Hid (Below w.heap.size w (w.alloc (.cells #[.slice a1 m.vars.length c1, .slice a2 m.cons.length c2, .int .i64 m.goal, .int .i64 m.var] 25))) := below_alloc _ _
  go_enter Tryz.func26, Tryz.ntmps26
  go_wp2_with fail
  refine (learned_any m l d _ _ _ _ _ (HMA.out _ HB0.out) (HU.out _ HB0.out) (HV.out _ HB0.out) (HT.out _ HB0.out)).mono ?_
  rintro e w1 ⟨rp, x, rfl, hx, _, _, hb1⟩
  rw [HR.out] at hx ⊢
  obtain ⟨R1, R2, R3⟩ := R
  dsimp only at hx ⊢
  have HX : Hid (LOwn w.heap.size w1 x R1) := own_lower HB0.out.size hx
  have HB1 : Hid (Below w.heap.size w w1) := HB0.out.trans (hb1.mono HB0.out.size)
  obtain ⟨ax, cx, rfl⟩ := own_form (show w1.ownsRow _ _ _ _ _ _ from hx)
  clear hx hb1
  go_wp2
  go_ret3
  exact ⟨_, rfl, HX.out, HB1.out⟩

set_option maxHeartbeats 1600000 in
set_option maxRecDepth 100000 in
theorem lsteps_any (m : Mod) (l : List Cla) (d : Cla) (vs cs u v : Value) (w : World) (hma : MArg w vs cs m) (hu : LLArg w u l) (hv : LArg w v d) (hT : TabT w) :
    Calls Tryz.prog 33 #[modV vs cs m, u, v] w fun e w' => ∃ x L, e = .returned (.tuple #[x, .bool (lstepsA m l d).2.1, .int .i64 (lstepsA m l d).2.2]) ∧ L.map (·.1) = (lstepsA m l d).1 ∧ StOwn w.heap.size w' x L ∧ L.length ≤ 1500 ∧ Below w.heap.size w w' := by
  have HMA : Hid (∀ w' : World, Below w.heap.size w w' → MArg w' vs cs m) := fun w' h => MArg.below h hma
  have HU : Hid (∀ w' : World, Below w.heap.size w w' → LLArg w' u l) := fun w' h => LLArg.below h hu
  have HV : Hid (∀ w' : World, Below w.heap.size w w' → LArg w' v d) := fun w' h => LArg.below h hv
  have HT : Hid (∀ w', Below w.heap.size w w' → TabT w') := fun w' h => hT.below h
  obtain ⟨⟨a1, c1, rfl, _, _⟩, ⟨a2, c2, rfl, _, _⟩⟩ := hma
  obtain ⟨a3, c3, rfl, _, _⟩ := hu
  obtain ⟨a4, c4, rfl, _, _⟩ := hv
  obtain ⟨R, hR⟩ : ∃ R, learnedA m l d = R := ⟨_, rfl⟩
  have HR : Hid (learnedA m l d = R) := hR
  obtain ⟨Q, hQ⟩ : ∃ Q, lstepsA m l d = Q := ⟨_, rfl⟩
  have HQ : Hid (Q = if R.2.1 then (stepsA m.vars (l.map (heldP m.vars)) (ptsM m) R.1, true, 0) else ([], false, R.2.2)) := by show _ = _; rw [← hQ, ← hR]; rfl
  rw [hQ]
  have HM : Hid (R.2.1 = true → learnE m l d = 0 ∧ (oppsN m d []).1.length ≤ 40 ∧ R.1.length ≤ (oppsN m d []).1.length) := by
    rw [← hR]
    intro h
    unfold learnedA at h ⊢
    by_cases h1 : learnE m l d = 0
    · rw [if_pos h1] at h ⊢
      have h3 := claE_len _ _ (learnE_zero m l d h1).2.2
      have h4 := opps_len m d []
      simp only [List.length_nil, Nat.zero_add] at h4
      by_cases h2 : (oppsN m d []).2 = 0
      · rw [if_pos h2] at h ⊢
        refine ⟨h1, by omega, ?_⟩
        dsimp only at h ⊢
        unfold leastA at h ⊢
        split
        · exact least_len _ _ _
        · simp
      · rw [if_neg h2] at h; cases h
    · rw [if_neg h1] at h; cases h
  unfold modV
  clear hR hT hQ
  have HB0 : Hid (Below w.heap.size w (w.alloc (.cells #[.slice a1 m.vars.length c1, .slice a2 m.cons.length c2, .int .i64 m.goal, .int .i64 m.var] 25))) := below_alloc _ _
  go_enter Tryz.func33, Tryz.ntmps33
  go_wp2_with fail
  refine (learned_any m l d _ _ _ _ _ (HMA.out _ HB0.out) (HU.out _ HB0.out) (HV.out _ HB0.out) (HT.out _ HB0.out)).mono ?_
  rintro e w1 ⟨rp, x, rfl, hx, hrp, hru, hb1⟩
  rw [HR.out] at hx hru ⊢
  obtain ⟨R1, R2, R3⟩ := R
  dsimp only at hx hru HQ HM ⊢
  have HX : Hid (LArg w1 x R1) := hx.arg
  have HB1 : Hid (Below w.heap.size w w1) := HB0.out.trans (hb1.mono HB0.out.size)
  obtain ⟨ax, cx, rfl⟩ := own_form (show w1.ownsRow _ _ _ _ _ _ from hx)
  clear hx hb1
  cases R2
  · have HQ2 : Hid (Q = ([], false, R3)) := HQ.out
    clear hru
    go_wp2
    go_ret3
    exact ⟨_, [], by rw [HQ2.out]; rfl, by rw [HQ2.out]; rfl, ⟨World.ownsRow_nil _ _ _ _, fun x hx => by cases hx⟩, by simp, HB1.out⟩
  · obtain ⟨r, pv, cv, rfl, hra⟩ := hru rfl
    obtain ⟨h1, h2, h3⟩ := HM.out rfl
    obtain ⟨hc0, hc1, hc2⟩ := learnE_zero m l d h1
    have HMC : Hid (checkM m = 0) := hc0
    have HL6 : Hid (l.length ≤ 600) := clasE_len _ _ hc1
    have HRL : Hid (R1.length ≤ 900) := by show _ ≤ _; omega
    have HRA : Hid (RulesAt w1 r (.slice a1 m.vars.length c1) pv cv m.vars (ptsM m) (l.map (heldP m.vars))) := hra
    have HQ2 : Hid (Q = (stepsA m.vars (l.map (heldP m.vars)) (ptsM m) R1, true, 0)) := HQ.out
    clear hra h1 h2 h3 hc0 hc1 hc2 hru hrp
    go_wp2_with fail
    refine (rsteps_any m.vars (vars_all m HMC.out) (vars_one m HMC.out) (ptsM m) (l.map (heldP m.vars)) (by rw [List.length_map]; have := HL6.out; omega) R1 HRL.out r _ pv cv _ _ HRA.out HX.out).mono ?_
    rintro e w2 ⟨y, L, rfl, hmp, hso, hl15, hb2⟩
    have HMP : Hid (L.map (·.1) = stepsA m.vars (l.map (heldP m.vars)) (ptsM m) R1) := hmp
    have HSO : Hid (StOwn w.heap.size w2 y L) := hso.mono HB1.out.size
    have HL15 : Hid (L.length ≤ 1500) := hl15
    have HB2 : Hid (Below w.heap.size w w2) := HB1.out.trans (hb2.mono HB1.out.size)
    obtain ⟨ay, cy, rfl⟩ := own_form hso.1
    clear hmp hso hl15 hb2
    go_wp2
    go_ret3
    exact ⟨_, L, by rw [HQ2.out]; rfl, by rw [HQ2.out]; exact HMP.out, HSO.out, HL15.out, HB2.out⟩
end Go.Proofs.YtijohkhpigjbkaeGreatDoor
/-
  PLAIN: the constraint of two(), and its scope.
-/
namespace Go.Proofs.YtijohkhpigjbkaeGreatDoor

def twoC : MCon := ⟨1, [0, 1], [1, -1], -1, [], []⟩
theorem sort_01 : sortI [0, 1] = [0, 1] := by
  unfold sortI
  exact List.mergeSort_of_pairwise (by decide)
theorem two_scopeC : scopeC twoC = [0, 1] := by
  have h1 : scopeL twoC = [0, 1] := by rfl
  unfold scopeC
  rw [h1, sort_01]
  decide
end Go.Proofs.YtijohkhpigjbkaeGreatDoor
/-
  PLAIN: the points of two()'s constraint.
-/
namespace Go.Proofs.YtijohkhpigjbkaeGreatDoor

def twoP : List Nat := [129, 257, 258]
theorem two_points : pointsP twoM.vars twoC = twoP := by
  unfold pointsP
  rw [two_scopeC]
  decide +kernel
theorem two_con0 : twoM.cons.getD (0 : Int).toNat noCon = twoC := rfl
end Go.Proofs.YtijohkhpigjbkaeGreatDoor
/-
  PLAIN: what is learned of two().
-/
namespace Go.Proofs.YtijohkhpigjbkaeGreatDoor

def dTwo : Cla := [⟨1, 1, 0⟩]
theorem ptsM_two : ptsM twoM = [twoP] := by
  show [pointsP twoM.vars twoC] = _
  rw [two_points]
theorem lea_e1 : learnE twoM [] dTwo = 0 := by unfold learnE; rw [if_pos two_checks]; decide
theorem lea_e2 : learnE twoM [] [] = 0 := by unfold learnE; rw [if_pos two_checks]; decide
theorem lea_not : lnotA twoM ⟨1, 1, 0⟩ = (⟨1, 2, 1⟩, 0) := by
  have h : lcheckA twoM ⟨1, 1, 0⟩ = 0 := by unfold lcheckA; rw [if_pos two_checks]; decide
  unfold lnotA; rw [if_pos h, if_pos (show litE twoM.vars (oppL ⟨1, 1, 0⟩) = 0 by decide)]; rfl
theorem lea_opps : oppsN twoM dTwo [] = ([⟨1, 2, 1⟩], 0) := by
  show (if (lnotA twoM ⟨1, 1, 0⟩).2 = 0 then _ else _) = _
  rw [lea_not]; rfl
theorem lea_l1 : learnedA twoM [] dTwo = ([⟨1, 2, 1⟩], true, 0) := by
  unfold learnedA
  rw [if_pos lea_e1, lea_opps, ptsM_two]
  kernel_rfl
theorem lea_l2 : learnedA twoM [] [] = ([], false, 0) := by
  unfold learnedA
  rw [if_pos lea_e2, ptsM_two]
  kernel_rfl
theorem lea_s : ∃ S, lstepsA twoM [] dTwo = (S ++ [⟨2, 0, [⟨1, 2, 1⟩]⟩], true, 0) := by
  unfold lstepsA
  rw [lea_l1]
  exact ⟨_, rfl⟩
end Go.Proofs.YtijohkhpigjbkaeGreatDoor
/-
  WALK: the reference's SameInts.
-/
namespace Go.Proofs.YtijohkhpigjbkaeGreatDoor
open Go.RowKit

theorem take_same {α : Type} (a b : List α) (m : Nat) (x : α) (h : a.take m = b.take m) (ha : a[m]? = some x) (hb : b[m]? = some x) : a.take (m + 1) = b.take (m + 1) := by
  rw [List.take_add_one, List.take_add_one, h, ha, hb]
theorem same_end {α : Type} (a b : List α) (m : Nat) (h : a.take m = b.take m) (ha : ¬ m < a.length) (hl : a.length = b.length) : a = b := by
  rwa [List.take_of_length_le (by omega), List.take_of_length_le (by omega)] at h
theorem not_same {α : Type} (a b : List α) (m : Nat) (x y : α) (ha : a[m]? = some x) (hb : b[m]? = some y) (h : x ≠ y) : a ≠ b := by
  intro e; subst e; rw [ha] at hb; cases hb; exact h rfl

set_option maxHeartbeats 800000 in
set_option maxRecDepth 100000 in
theorem sameints_any (l k : List Int) (v u : Value) (w : World) (hv : IArg w v l) (hu : IArg w u k) :
    Calls Tryz.prog 61 #[v, u] w fun e w' => e = .returned (.bool (decide (l = k))) ∧ ∃ n, w' = w.drewN n := by
  obtain ⟨a, c, rfl, hm, hr⟩ := hv
  obtain ⟨a', c', rfl, hm', hr'⟩ := hu
  have HV : Hid (∀ (i : Nat) (z : Int), l[i]? = some z → ∃ b off, a = some ⟨b, off, none⟩ ∧ b < w.heap.size ∧ w.cell? ⟨b, off + i, none⟩ = some (.int .i64 z)) := hr
  have HV' : Hid (∀ (i : Nat) (z : Int), k[i]? = some z → ∃ b off, a' = some ⟨b, off, none⟩ ∧ b < w.heap.size ∧ w.cell? ⟨b, off + i, none⟩ = some (.int .i64 z)) := hr'
  obtain ⟨R, hR⟩ : ∃ R, decide (l = k) = R := ⟨_, rfl⟩
  rw [hR]
  have HR : Hid (decide (l = k) = R) := hR
  unfold maxLen at hm hm'
  obtain ⟨hm1, hm⟩ := hm
  obtain ⟨hm1', hm'⟩ := hm'
  clear hr hr' hR
  by_cases hl : l.length = k.length
  · have HL : Hid (l.length = k.length) := hl
    have g0 : ((l.length : Int) != (k.length : Int)) = false := by simp [hl]
    clear hl
    go_enter Tryz.func61, Tryz.ntmps61
    go_wp2_with fail
    go_loopw [5] (fun i wr => ∃ m : Nat, m ≤ l.length ∧ i = .int .i64 m ∧ Hid (l.take m = k.take m) ∧ ∃ n, wr = w.drewN n) (fun i _ => l.length - (intOf i).toNat)
    case atStart => exact ⟨0, by omega, rfl, rfl, 0, rfl⟩
    case round =>
      obtain ⟨m, hml, rfl, hall, nq, rfl⟩ := hrel
      by_cases hlt : m < l.length
      · have hlt' : m < k.length := by rw [← HL.out]; exact hlt
        obtain ⟨x, hx⟩ : ∃ x, l[m]? = some x := ⟨l[m], by simp [hlt]⟩
        obtain ⟨y, hy⟩ : ∃ y, k[m]? = some y := ⟨k[m], by simp [hlt']⟩
        obtain ⟨b, off, ha, hb, hc⟩ := HV.out m x hx
        obtain ⟨b', off', ha', hb', hd⟩ := HV'.out m y hy
        have HX : Hid (l[m]? = some x) := hx
        have HY : Hid (k[m]? = some y) := hy
        subst ha; subst ha'
        clear hx hy
        by_cases hq : x = y
        · subst hq
          have HN : Hid (l.take (m + 1) = k.take (m + 1)) := take_same l k m x hall.out HX.out HY.out
          go_wp2
          go_quiet (fail)
          go_wp2
          go_roundw
          case rel => exact ⟨m + 1, by omega, by go_num, HN, _, rfl⟩
          case measure => simp [intOf]; omega
        · have HN : Hid (R = false) := by rw [← HR.out]; exact decide_eq_false (not_same l k m x y HX.out HY.out hq)
          have hq2 : (x != y) = true := by simpa using hq
          clear hq
          go_wp2
          go_quiet (fail)
          go_wp2
          go_ret
          exact ⟨ret_bool HN.out.symm, _, drewN_drewN _ _ _⟩
      · have HN : Hid (R = true) := by rw [← HR.out]; exact decide_eq_true (same_end l k m hall.out hlt HL.out)
        go_wp2
        go_ret
        exact ⟨ret_bool HN.out.symm, _, rfl⟩
  · have HN : Hid (R = false) := by rw [← HR.out]; exact decide_eq_false (fun h => hl (by rw [h]))
    have g0 : ((l.length : Int) != (k.length : Int)) = true := by simp; omega
    clear hl
    go_enter Tryz.func61, Tryz.ntmps61
    go_wp2
    go_ret
    exact ⟨ret_bool HN.out.symm, 0, rfl⟩

end Go.Proofs.YtijohkhpigjbkaeGreatDoor
/-
  WALK: the reference's SameClause, where both are the same.
-/
namespace Go.Proofs.YtijohkhpigjbkaeGreatDoor
open Go.RowKit

theorem LArg.nth {w : World} {a : Option Addr} {n c : Nat} {l : List MLit} (h : LArg w (.slice a n c) l) (i : Nat) (t : MLit) (hr : l[i]? = some t) : ∃ b off, a = some ⟨b, off, none⟩ ∧ b < w.heap.size ∧
    w.cell? ⟨b, off + i * 3, none⟩ = some (.int .i64 t.var) ∧ w.cell? ⟨b, off + i * 3 + 1, none⟩ = some (.int .i64 t.op) ∧ w.cell? ⟨b, off + i * 3 + 2, none⟩ = some (.int .i64 t.n) := by
  obtain ⟨a', c', hv, _, hh⟩ := h
  cases hv
  exact hh i t hr
set_option maxHeartbeats 1600000 in
set_option maxRecDepth 100000 in
theorem sameclause_eq (s : List MLit) (v u : Value) (w : World) (hv : LArg w v s) (hu : LArg w u s) :
    Calls Tryz.prog 35 #[v, u] w fun e w' => e = .returned (.bool true) ∧ ∃ n, w' = w.drewN n := by
  have HA : Hid (LArg w v s) := hv
  have HA' : Hid (LArg w u s) := hu
  obtain ⟨a, c, rfl, hm, _⟩ := hv
  obtain ⟨a', c', rfl, hm', _⟩ := hu
  unfold maxLen at hm hm'
  obtain ⟨hm1, hm⟩ := hm
  obtain ⟨hm1', hm'⟩ := hm'
  have g0 : ((s.length : Int) != (s.length : Int)) = false := by simp
  go_enter Tryz.func35, Tryz.ntmps35
  go_wp2_with fail
  go_loopw [5] (fun i wr => ∃ m : Nat, m ≤ s.length ∧ i = .int .i64 m ∧ ∃ n, wr = w.drewN n) (fun i _ => s.length - (intOf i).toNat)
  case atStart => exact ⟨0, by omega, rfl, 0, rfl⟩
  case round =>
    obtain ⟨m, hml, rfl, nq, rfl⟩ := hrel
    by_cases hlt : m < s.length
    · obtain ⟨x, hx⟩ : ∃ x, s[m]? = some x := ⟨s[m], by simp [hlt]⟩
      obtain ⟨b, off, rfl, hb, h0, h1, h2⟩ := LArg.nth HA.out m x hx
      obtain ⟨b', off', rfl, hb', h0', h1', h2'⟩ := LArg.nth HA'.out m x hx
      clear hx
      go_wp2
      go_quiet (fail)
      go_wp2
      go_roundw
      case rel => exact ⟨m + 1, by omega, by go_num, _, rfl⟩
      case measure => simp [intOf]; omega
    · go_wp2
      go_ret
      exact ⟨rfl, _, rfl⟩
end Go.Proofs.YtijohkhpigjbkaeGreatDoor
/-
  WALKS: package sift: All, None.
-/
namespace Go.Proofs.YtijohkhpigjbkaeGreatDoor
open Go.RowKit

set_option maxHeartbeats 400000 in
theorem yes_any (x y : Value) (w : World) : Calls Tryz.prog 168 #[x, y] w fun e w' => e = .returned (.bool true) ∧ Below w.heap.size w w' := by
  go_enter Tryz.func168, Tryz.ntmps168
  go_wp2
  go_ret
  exact ⟨rfl, Below.refl _ _⟩
theorem enters_yes (args : Array Value) (w' : World) : Sem.run Tryz.prog (callFunc 168 args) w' = .ok (.enter 168 args) w' := by
  simp [callFunc, go_sem, Tryz.func168, Tryz.f168]

set_option maxHeartbeats 400000 in
theorem all_any (s : Sto) (v : Value) (w : World) (hv : RArg w v s) (hn : s.length ≤ 6) (hr6 : ∀ r ∈ s, r.length ≤ 6) :
    Calls Tryz.prog 116 #[v] w fun e w' => ∃ x, e = .returned x ∧ RArg w' x s ∧ Below w.heap.size w w' := by
  have HV : Hid (RArg w v s) := hv
  have HR6 : Hid (∀ r ∈ s, r.length ≤ 6) := hr6
  obtain ⟨a, c, rfl, _, _⟩ := hv
  clear hr6
  go_enter Tryz.func116, Tryz.ntmps116
  go_wp2_with fail
  refine (sift_any 168 #[] s (fun _ _ => true) _ _ HV.out ⟨enters_yes, fun k r z w' _ _ _ => yes_any _ _ w'⟩ hn HR6.out).mono ?_
  rintro e w1 ⟨x, rfl, hx, hb1⟩
  rw [sift_same s _ (fun _ _ _ _ _ => rfl)] at hx
  have HX : Hid (RArg w1 x s) := hx
  obtain ⟨ax, cx, rfl, _, _⟩ := hx
  go_wp2
  go_ret
  exact ⟨_, rfl, HX.out, hb1⟩

set_option maxHeartbeats 400000 in
theorem none_any (s : Sto) (v : Value) (w : World) (hv : RArg w v s) (hn : s.length ≤ 6) :
    Calls Tryz.prog 173 #[v] w fun e w' => ∃ x, e = .returned x ∧ RArg w' x (clearS s) ∧ Below w.heap.size w w' := by
  obtain ⟨a, c, rfl, _, _⟩ := hv
  obtain ⟨wm, hrun, hrows, hbm⟩ := make_store s.length hn w
  have HX : Hid (RArg wm (.slice (some ⟨w.heap.size, 0, none⟩) s.length s.length) (clearS s)) := by
    obtain ⟨h1, _, _⟩ := hrows []
    have hB : w.heap.size < wm.heap.size := (h1.lt w.heap.size rfl).2
    refine ⟨_, s.length, by rw [clear_len], ⟨by rw [clear_len]; exact Nat.le_refl _, by unfold maxLen; omega⟩, fun i r hr => ?_⟩
    have hi : i < s.length := by rw [← clear_len s]; exact (List.getElem?_eq_some_iff.1 hr).1
    rw [clear_get s i r hr]
    refine ⟨w.heap.size, 0, .slice none 0 0, rfl, hB, ?_, ⟨none, 0, rfl, ⟨Nat.le_refl _, Nat.zero_le _⟩, fun j z hz => by simp at hz⟩⟩
    rw [Nat.zero_add, h1.cellAt i (by omega)]
    simp [hi]
  have HB : Hid (Below w.heap.size w wm) := hbm
  obtain ⟨B, hB⟩ : ∃ B, B = w.heap.size := ⟨_, rfl⟩
  rw [← hB] at hrun HX
  clear hrows hbm hB
  go_enter Tryz.func173, Tryz.ntmps173
  go_wp2
  go_ret
  exact ⟨_, rfl, HX.out, HB.out⟩
end Go.Proofs.YtijohkhpigjbkaeGreatDoor
