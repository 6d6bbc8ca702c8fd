/-
  PART 9 of what the proof leans on (FolF, FolG, FolH, FolC, FolI, FolJ, FenS, SekB).
-/
import Derived.Test.YtdjbejlbmaiocagGreatDoorPartH
import Derived.Deep.RegionLaw
import Derived.Maps.AppendAt
/-
  MEMORY: reasons that are gathered. WALKS: package follow: reasons' closures.
-/
namespace Go.Proofs.YtdjbejlbmaiocagGreatDoor
open Go.RowKit

/-- Reasons, gathered in a box. -/
structure ReaS (w0 : World) (r : Nat) (w : World) (ov : Value) (L : List RV) : Prop where
  blk0 : w.heap[w0.heap.size]? = some (.cells #[.pointer (some ⟨r, 0, none⟩)] 117)
  blk : w.heap[w0.heap.size + 1]? = some (.cells #[ov] 284)
  own : ROwn (w0.heap.size + 2) w ov L
  cl : ∀ x ∈ L, LOwn (w0.heap.size + 2) w x.2 x.1.1.cla
  fr : Below w0.heap.size w0 w
theorem ReaS.below {w0 w w' : World} {r : Nat} {ov : Value} {L : List RV} (h : ReaS w0 r w ov L) (hb : Below w.heap.size w w') : ReaS w0 r w' ov L :=
  ⟨(hb.block _ (Array.getElem?_eq_some_iff.1 h.blk0).1).trans h.blk0, (hb.block _ (Array.getElem?_eq_some_iff.1 h.blk).1).trans h.blk, own_below h.own hb, fun x hx => own_below (h.cl x hx) hb, h.fr.trans (hb.mono h.fr.size)⟩
theorem ReaS.sl {w0 w : World} {r : Nat} {ov : Value} {L : List RV} (h : ReaS w0 r w ov L) : ∀ x ∈ L, IsSl x := fun x hx => by
  obtain ⟨a, c, he⟩ := own_form (show w.ownsRow _ _ _ _ _ _ from h.cl x hx)
  exact ⟨a, _, c, he⟩
/-- A block of another type is not a row's own. -/
theorem blk_not_own {w : World} {B b : Nat} {e t : TypeId} {s n : Nat} {v : Value} {xs : List Value} {cs : Array Value} (h : w.ownsRow B e s v n xs) (hb : w.heap[b]? = some (.cells cs t)) (hne : t ≠ e) : v.ownBlock ≠ some b := by
  intro he
  rcases h.2 with ⟨rfl, _⟩ | ⟨g, cap, cur, rfl, _, hh, _⟩
  · cases he
  · have : g = b := by injection he
    subst this
    rw [hh] at hb
    injection hb with h1
    injection h1 with _ h2
    exact hne h2.symm
theorem reason_laid (w : World) (x : RV) : ∀ (j : Nat) (u : Value), (reasonCs x)[j]? = some u → (w.alloc (.cells #[.int .i64 x.1.1.kind, .int .i64 x.1.1.con, x.2, .int .u64 (x.1.2 : Int)] 287)).cell? ((⟨w.heap.size, 0, none⟩ : Addr).add j) = some u := by
  intro j u hj
  match j, hj with
  | 0, hj => simp [reasonCs] at hj; subst hj; simp [Addr.add]
  | 1, hj => simp [reasonCs] at hj; subst hj; simp [Addr.add]
  | 2, hj => simp [reasonCs] at hj; subst hj; simp [Addr.add]
  | 3, hj => simp [reasonCs] at hj; subst hj; simp [Addr.add]
theorem ReaS.push {w0 w w1 w2 : World} {r : Nat} {ov v' : Value} {L : List RV} {x : RV} {n : Nat} (h : ReaS w0 r w ov L) (hb : Below w.heap.size w w1) (hx : LOwn (w0.heap.size + 2) w1 x.2 x.1.1.cla) (hg : w1.grownBy w2 ov.ownBlock) (hn : n = L.length + 1) (ho : w2.ownsRow (w0.heap.size + 2) 287 4 v' n ((L.map reasonCs).flatten ++ reasonCs x)) :
    ReaS w0 r (w2.setCell ⟨w0.heap.size + 1, 0, none⟩ v') v' (L ++ [x]) ∧ Fr (fun k => k = w0.heap.size + 1 ∨ ov.ownBlock = some k) w (w2.setCell ⟨w0.heap.size + 1, 0, none⟩ v') := by
  have h1 := h.below hb
  have hb2 : w2.heap[w0.heap.size + 1]? = some (.cells #[ov] 284) := blk_grown h1.blk hg h1.own (by decide)
  have ho2 : ROwn (w0.heap.size + 2) w2 v' (L ++ [x]) := by
    show World.ownsRow _ _ _ _ _ _ _
    rw [List.length_append, List.length_singleton, ← hn, List.map_append, List.flatten_append]
    simpa using ho
  refine ⟨⟨?_, ?_, own_set ho2 hb2 (by decide) 0 _, fun y hy => ?_, ?_⟩, ?_⟩
  · exact (Below.heap_setCell _ _ _ _ (by simp)).trans (blk_grown h1.blk0 hg h1.own (by decide))
  · rw [heap_setCell_same w2 _ 0 _ _ v' hb2]; rfl
  · rcases List.mem_append.1 hy with h3 | h3
    · exact own_set (own_grown (h1.cl y h3) hg h1.own (by decide)) hb2 (by decide) 0 _
    · rw [List.mem_singleton.1 h3]
      exact own_set (own_grown hx hg h1.own (by decide)) hb2 (by decide) 0 _
  · exact (h1.fr.grown hg h1.fr.size (fun k hk => by have := (h1.own.lt k hk).1; omega)).setCell (show w0.heap.size ≤ w0.heap.size + 1 by omega) _
  · exact Fr.setX (X := fun k => k = w0.heap.size + 1 ∨ ov.ownBlock = some k) ((Fr.below hb).grown hg (fun k hk => Or.inl (Or.inr hk))) (p := ⟨w0.heap.size + 1, 0, none⟩) (Or.inl rfl) _

set_option maxHeartbeats 6400000 in
set_option maxRecDepth 100000 in
theorem radd_any (vs : List MVar) (hva : VarsAll vs) (pt : List (List Nat)) (cs : List Nat) (r : Nat) (sv pv cv : Value) (w0 : World) (hR : RulesAt w0 r sv pv cv vs pt cs) (con : Nat) (pts : List Nat) (hcon : pt[con]? = some pts) (g0 : Nat) (hgw : ∀ i, g0.testBit i = true → (wholeP vs).testBit i = true)
    (any : Cla) (hla : any.length ≤ 100) (u : Value) (bc bg : Nat) (ov : Value) (L : List RV) (hLL : L.length ≤ 8000) (w : World) (hS : ReaS w0 r w ov L) (hu : LArg w u any)
    (hc : w.cell? ⟨bc, 0, none⟩ = some (.int .i64 con)) (hg : w.cell? ⟨bg, 0, none⟩ = some (.int .u64 g0)) (hlc : bc < w.heap.size) (hlg : bg < w.heap.size) :
    Calls Tryz.prog 284 #[u, .pointer (some ⟨w0.heap.size, 0, none⟩), .pointer (some ⟨bc, 0, none⟩), .pointer (some ⟨bg, 0, none⟩), .pointer (some ⟨w0.heap.size + 1, 0, none⟩)] w fun e w' => e = .returned (.tuple #[]) ∧
      ∃ ov' x, x.1 = reasonOf vs con (whyP vs pts any g0) ∧ ReaS w0 r w' ov' (L ++ [x]) ∧ Fr (fun k => k = w0.heap.size + 1 ∨ ov.ownBlock = some k) w w' := by
  obtain ⟨i0, hi0, hz0, hz1, hz2⟩ := info_parts Tryz.infoReason
  have HS : Hid (ReaS w0 r w ov L) := hS
  have hb1 : w.cell? ⟨w0.heap.size, 0, none⟩ = some (.pointer (some ⟨r, 0, none⟩)) := blk9 hS.blk0 0 _ rfl
  have hl1 : w0.heap.size + 1 < w.heap.size := (Array.getElem?_eq_some_iff.1 hS.blk).1
  have HR : Hid (∀ Y, Below w.heap.size w Y → RulesAt Y r sv pv cv vs pt cs) := fun Y hY => RulesAt.below (hS.fr.trans (hY.mono hS.fr.size)) hR
  have HU : Hid (∀ Y, Below w.heap.size w Y → LArg Y u any) := fun Y hY => LArg.below hY hu
  have HVO : Hid (VarsAll vs) := hva
  have HLA : Hid (any.length ≤ 100) := hla
  have HGW : Hid (∀ i, g0.testBit i = true → (wholeP vs).testBit i = true) := hgw
  have hRW := RulesAt.below hS.fr hR
  have r0 := hRW.c0
  have r1 := hRW.c1
  have rl := hRW.lt
  obtain ⟨a1, c1, rfl, _, _⟩ := hRW.hv
  obtain ⟨a2, c2, rfl, hm2, hr2⟩ := hRW.hp
  have hct : con < pt.length := (List.getElem?_eq_some_iff.1 hcon).1
  obtain ⟨b, off, x, rfl, hb, hcx, hpx⟩ := hr2 con pts hcon
  have HPX : Hid (∀ Y, Below w.heap.size w Y → PArg Y x pts) := fun Y hY => PArg.below hY hpx
  obtain ⟨a3, c3, rfl, _, _⟩ := hpx
  obtain ⟨ao, co, rfl⟩ := own_form (show w.ownsRow _ _ _ _ _ _ from hS.own)
  obtain ⟨a4, c4, rfl, _, _⟩ := hu
  unfold maxLen at hm2
  obtain ⟨hm21, hm22⟩ := hm2
  obtain ⟨C, hC⟩ : ∃ C, whyP vs pts any g0 = C := ⟨_, rfl⟩
  have HC : Hid (whyP vs pts any g0 = C) := hC
  obtain ⟨h, hh⟩ : ∃ h, heldP vs C = h := ⟨_, rfl⟩
  have HRO : Hid (reasonOf vs con (whyP vs pts any g0) = (⟨1, (con : Int), C⟩, h)) := by show _ = _; rw [hC, ← hh]; rfl
  have HH : Hid (heldP vs C = h) := hh
  rw [HRO.out]
  have HWY : Hid (∀ Y, Below w.heap.size w Y → Calls Tryz.prog 285 #[.slice a1 (List.length vs) c1, .slice a3 (List.length pts) c3, .slice a4 (List.length any) c4, .int .u64 (g0 : Int)] Y fun e w' => ∃ x, e = .returned x ∧ LOwn Y.heap.size w' x C ∧ Below Y.heap.size Y w') := fun Y hY => by
    rw [← HC.out]
    exact why_any vs HVO.out pts any HLA.out g0 HGW.out _ _ _ Y (HR.out Y hY).hv (HPX.out Y hY) (HU.out Y hY) (HR.out Y hY).tab
  have HO2 : Hid (∀ Y, Below w.heap.size w Y → Y.cell? ⟨w0.heap.size + 1, 0, none⟩ = some (.slice ao L.length co)) := fun Y hY => blk9 (hS.below hY).blk 0 _ rfl
  have o2 := HO2.out w (Below.refl _ _)
  clear hva hla hgw hS hR hRW hr2 hcon hC hh
  go_enter Tryz.func284, Tryz.ntmps284
  go_wp2_with fail
  go_region_held3 (fun w' => Below w.heap.size w w' ∧ w'.cell? ⟨w0.heap.size, 0, none⟩ = some (.pointer (some ⟨r, 0, none⟩)) ∧ w'.cell? ⟨r, 0, none⟩ = some (.slice a1 (List.length vs) c1) ∧ w'.cell? ⟨r, 1, none⟩ = some (.slice (some ⟨b, off, none⟩) (List.length pt) c2) ∧ w'.cell? ⟨bc, 0, none⟩ = some (.int .i64 con) ∧ w'.cell? ⟨bg, 0, none⟩ = some (.int .u64 g0) ∧ w'.cell? ⟨b, off + con, none⟩ = some (.slice a3 (List.length pts) c3))
    ((refine (fun (hB : Below w.heap.size w _) => ⟨hB, (hB.cell (p := ⟨w0.heap.size, 0, none⟩) (Nat.lt_of_succ_lt hl1)).trans hb1, (hB.cell (p := ⟨r, 0, none⟩) rl).trans r0, (hB.cell (p := ⟨r, 1, none⟩) rl).trans r1, (hB.cell (p := ⟨bc, 0, none⟩) hlc).trans hc, (hB.cell (p := ⟨bg, 0, none⟩) hlg).trans hg, (hB.cell (p := ⟨b, off + con, none⟩) hb).trans hcx⟩ : Below w.heap.size w _ → _) ?_; first | exact (Below.refl _ _).drew | exact fen_call (by assumption) hbq))
    (first
      | (go_at_call 285; refine (HWY.out _ (show Below w.heap.size w _ ∧ _ by assumption).1).mono ?_; rintro e w3 ⟨xc, rfl, hxc, hbq⟩; obtain ⟨ac, cc, rfl⟩ := own_form (show w3.ownsRow _ _ _ _ _ _ from hxc); obtain ⟨base, HBASE, HXC⟩ : ∃ base, Hid (base = _) ∧ Hid (LOwn base w3 (.slice ac (List.length C) cc) C) := ⟨_, rfl, hxc⟩; clear hxc; have hB3 := fen_call (by assumption) hbq))
  have hbase : w0.heap.size + 2 ≤ base := by have e : base = w.heap.size := HBASE.out; omega
  have HXC2 : Hid (LOwn (w0.heap.size + 2) w3 (.slice ac (List.length C) cc) C) := own_lower hbase HXC.out
  have HB3 : Hid (Below w.heap.size w w3) := hB3
  have q1 := (hB3.cell (p := ⟨w0.heap.size, 0, none⟩) (Nat.lt_of_succ_lt hl1)).trans hb1
  have q2 := (hB3.cell (p := ⟨r, 0, none⟩) rl).trans r0
  have q3 := (hB3.cell (p := ⟨bc, 0, none⟩) hlc).trans hc
  have q4 := HO2.out w3 hB3
  have s3 := hB3.size
  have l1 : w0.heap.size + 1 < w3.heap.size := by omega
  have l2 : r < w3.heap.size := by omega
  clear hbq hB3 HBASE HXC hbase hb1 r0 r1 hc hg hcx o2
  go_upto_region 2 with (fail)
  have HBS : Hid (Below w3.heap.size w3 (w3.alloc (.cells #[.int .i64 1, .int .i64 con, .slice ac (List.length C) cc] 93))) := below_alloc _ _
  have t0 : (w3.alloc (.cells #[.int .i64 1, .int .i64 con, .slice ac (List.length C) cc] 93)).cell? ⟨w3.heap.size, 0, none⟩ = some (.int .i64 1) := World.cell?_alloc_at _ _ _ 0 (by simp)
  have t1 : (w3.alloc (.cells #[.int .i64 1, .int .i64 con, .slice ac (List.length C) cc] 93)).cell? ⟨w3.heap.size, 1, none⟩ = some (.int .i64 con) := World.cell?_alloc_at _ _ _ 1 (by simp)
  have t2 : (w3.alloc (.cells #[.int .i64 1, .int .i64 con, .slice ac (List.length C) cc] 93)).cell? ⟨w3.heap.size, 2, none⟩ = some (.slice ac (List.length C) cc) := World.cell?_alloc_at _ _ _ 2 (by simp)
  have tl : w3.heap.size < (w3.alloc (.cells #[.int .i64 1, .int .i64 con, .slice ac (List.length C) cc] 93)).heap.size := by simp
  obtain ⟨B, hB⟩ : ∃ B, w3.heap.size = B := ⟨_, rfl⟩
  rw [hB] at t0 t1 t2 tl ⊢
  obtain ⟨V, hV⟩ : ∃ V, w3.alloc (.cells #[.int .i64 1, .int .i64 con, .slice ac (List.length C) cc] 93) = V := ⟨_, rfl⟩
  rw [hV] at HBS t0 t1 t2 tl ⊢
  have HBV : Hid (Below w.heap.size w V) := HB3.out.trans (HBS.out.mono HB3.out.size)
  have k1 := (HBS.out.cell (p := ⟨w0.heap.size, 0, none⟩) (Nat.lt_of_succ_lt l1)).trans q1
  have k2 := (HBS.out.cell (p := ⟨r, 0, none⟩) l2).trans q2
  have k4 := (HBS.out.cell (p := ⟨w0.heap.size + 1, 0, none⟩) l1).trans q4
  have HSV : Hid (ReaS w0 r V (.slice ao L.length co) L) := HS.out.below HBV.out
  have HXV : Hid (LOwn (w0.heap.size + 2) V (.slice ac (List.length C) cc) C) := own_below HXC2.out HBS.out
  have HHE : Hid (∀ Y, Below V.heap.size V Y → Calls Tryz.prog 128 #[.slice a1 (List.length vs) c1, .slice ac (List.length C) cc] Y fun e w' => e = .returned (.int .u64 (h : Int)) ∧ Below Y.heap.size Y w') := fun Y hY => by
    rw [← HH.out]; exact held_any vs HVO.out C _ _ Y (HR.out Y (HBV.out.trans (hY.mono HBV.out.size))).hv (LArg.below hY HXV.out.arg)
  have vl1 : w0.heap.size + 1 < V.heap.size := Nat.lt_of_lt_of_le l1 HBS.out.size
  have vl2 : r < V.heap.size := Nat.lt_of_lt_of_le l2 HBS.out.size
  have vlB : B < V.heap.size := tl
  clear hB hV q1 q2 q3 q4 s3 tl
  go_region_law
    (first
      | (rw [if_pos (by rfl)]; refine wp_append_own _ _ _ 284 rfl (w0.heap.size + 2) 287 i0 _ 4 48 under_reasons hi0 hz0 hz1 hz2 rfl (by decide) _ _ _ rfl (hw5.alloc _) ⟨w5.heap.size, 0, none⟩ 1 1 (reasonCs ((⟨1, (con : Int), C⟩, h), .slice ac (List.length C) cc)) rfl rfl (reason_laid w5 ((⟨1, (con : Int), C⟩, h), .slice ac (List.length C) cc)) (by intro u hu; simp [reasonCs] at hu; rcases hu with rfl | rfl | rfl | rfl <;> rfl) ?_ ?_ ?_ ?_; (unfold maxLen; omega); omega; (have := hB5.size; simp; omega); intro v6 w6 hown6 hg6 _; have hP := ReaS.push (x := ((⟨1, (con : Int), C⟩, h), .slice ac (List.length C) cc)) HSV.out (hB5.alloc hB5.size (.cells #[.int .i64 1, .int .i64 con, .slice ac (List.length C) cc, .int .u64 (h : Int)] 287)) (own_below HXV.out (hB5.alloc hB5.size _)) hg6 rfl hown6; have hk6 := blk_grown (HSV.out.below (hB5.alloc hB5.size (.cells #[.int .i64 1, .int .i64 con, .slice ac (List.length C) cc, .int .u64 (h : Int)] 287))).blk hg6 (hw5.alloc _) (by decide); obtain ⟨a9, b9, hv9⟩ := own_form hown6; subst hv9; have d2 : w6.cell? ⟨w0.heap.size + 1, 0, none⟩ = some (.slice ao L.length co) := blk9 hk6 0 _ rfl; have z2 : w6.frozen? ⟨w0.heap.size + 1, 0, none⟩ = false := frz9 hk6 0)
      | (rw [if_pos (by rfl)]; go_simp; go_at_call 128; refine (HHE.out _ (Below.refl _ _).drew).mono ?_; rintro e w5 ⟨rfl, hb5⟩; have hB5 : Below V.heap.size V w5 := (Below.refl _ _).drew.trans hb5; have c5 : w5.cell? ⟨w0.heap.size + 1, 0, none⟩ = some (.slice ao L.length co) := (hB5.cell (p := ⟨w0.heap.size + 1, 0, none⟩) vl1).trans k4; have u0 := (hB5.cell (p := ⟨B, 0, none⟩) vlB).trans t0; have u1 := (hB5.cell (p := ⟨B, 1, none⟩) vlB).trans t1; have u2 := (hB5.cell (p := ⟨B, 2, none⟩) vlB).trans t2; have hw5 : w5.ownsRow (w0.heap.size + 2) 287 4 (.slice ao L.length co) L.length (L.map reasonCs).flatten := own_below HSV.out.own hB5; have l5 : w0.heap.size + 1 < w5.heap.size := Nat.lt_of_lt_of_le vl1 hB5.size; have lB5 : B < w5.heap.size := Nat.lt_of_lt_of_le vlB hB5.size; dsimp only))
  all_goals
    have HF : Hid (Fr (fun k => k = w0.heap.size + 1 ∨ (Value.slice ao L.length co).ownBlock = some k) w _) := (Fr.below HBV.out).trans hP.2
    go_wp2
    go_end0
    exact ⟨rfl, _, _, rfl, hP.1, HF.out⟩
end Go.Proofs.YtdjbejlbmaiocagGreatDoor
/-
  WALKS: package follow: reasons.
-/
namespace Go.Proofs.YtdjbejlbmaiocagGreatDoor
open Go.RowKit

theorem fr_cell {X : Nat → Prop} {w w' : World} {b : Nat} {cs : Array Value} {t : TypeId} (hf : Fr X w w') (hb : w.heap[b]? = some (.cells cs t)) (hx : ¬ X b) : w'.heap[b]? = some (.cells cs t) :=
  (hf.block b (Array.getElem?_eq_some_iff.1 hb).1 hx).trans hb
theorem reasons_single1 (vs : List MVar) (pt : List (List Nat)) (con b : Nat) (pts : List Nat) (h : pt[con]? = some pts) : reasonsT vs pt (con, b, 0) = [reasonOf vs con (whyP vs pts [] (lessN (wholeP vs) b))] := by
  unfold reasonsT
  rw [if_pos rfl]
  simp only [List.getD_eq_getElem?_getD, h]; rfl
theorem reasons_many (vs : List MVar) (pt : List (List Nat)) (con b a : Nat) (ha : a ≠ 0) (pts : List Nat) (h : pt[con]? = some pts) : reasonsT vs pt (con, b, a) = (litsP vs (lessN b a)).map fun l => reasonOf vs con (whyP vs pts [⟨l.var, 4, l.n⟩] (lessN (wholeP vs) b)) := by
  unfold reasonsT
  rw [if_neg ha]
  simp only [List.getD_eq_getElem?_getD, h]; rfl
theorem enters_radd (args : Array Value) (w' : World) : Sem.run Tryz.prog (callFunc 284 args) w' = .ok (.enter 284 args) w' := by
  simp [callFunc, go_sem, Tryz.func284, Tryz.f284]

set_option maxHeartbeats 6400000 in
set_option maxRecDepth 100000 in
theorem rtell_any (vs : List MVar) (hva : VarsAll vs) (pt : List (List Nat)) (cs : List Nat) (r : Nat) (sv pv cv : Value) (w0 : World) (hR : RulesAt w0 r sv pv cv vs pt cs) (con b a : Nat) (hcon : con < pt.length) (hbw : ∀ i, b.testBit i = true → (wholeP vs).testBit i = true) (hab : ∀ i, a.testBit i = true → b.testBit i = true)
    (ov : Value) (L : List RV) (hLL : L.length ≤ 7000) (w : World) (hS : ReaS w0 r w ov L) :
    Calls Tryz.prog 283 #[.int .i64 con, .int .u64 b, .int .u64 a, .pointer (some ⟨w0.heap.size, 0, none⟩), .pointer (some ⟨w0.heap.size + 1, 0, none⟩)] w fun e w' => e = .returned (.tuple #[]) ∧
      ∃ ov' L', L'.map (·.1) = reasonsT vs pt (con, b, a) ∧ ReaS w0 r w' ov' (L ++ L') := by
  obtain ⟨pts, hpts⟩ : ∃ pts, pt[con]? = some pts := ⟨pt[con], by simp [hcon]⟩
  have HP : Hid (pt[con]? = some pts) := hpts
  have HRL : Hid (RulesAt w0 r sv pv cv vs pt cs) := hR
  have HS : Hid (ReaS w0 r w ov L) := hS
  have HVO : Hid (VarsAll vs) := hva
  have HBW : Hid (∀ i, b.testBit i = true → (wholeP vs).testBit i = true) := hbw
  have HW36 : Hid (wholeP vs < 2 ^ 36) := of_lt vs hva.1 _
  have HB36 : Hid (b < 2 ^ 36) := Nat.lt_of_le_of_lt (Nat.le_of_testBit hbw) HW36.out
  have HA36 : Hid (a < 2 ^ 36) := Nat.lt_of_le_of_lt (Nat.le_of_testBit hab) HB36.out
  obtain ⟨q, hq⟩ : ∃ q, wholeP vs = q := ⟨_, rfl⟩
  have HQ : Hid (wholeP vs = q) := hq
  obtain ⟨g0, hg0⟩ : ∃ g0, lessN (wholeP vs) b = g0 := ⟨_, rfl⟩
  have hbits := bits_andNot_u64 (wholeP vs) b (by have := HW36.out; omega) (by have := HB36.out; omega)
  rw [hg0, hq] at hbits
  have HGW : Hid (∀ i, g0.testBit i = true → (wholeP vs).testBit i = true) := fun i hi => by
    rw [← hg0, testBit_less, Bool.and_eq_true] at hi
    exact hi.1
  have HG : Hid (lessN (wholeP vs) b = g0) := hg0
  have hRW := RulesAt.below hS.fr hR
  have r0 := hRW.c0
  have rl := hRW.lt
  have hb1 : w.cell? ⟨w0.heap.size, 0, none⟩ = some (.pointer (some ⟨r, 0, none⟩)) := blk9 hS.blk0 0 _ rfl
  have hl0 : w0.heap.size < w.heap.size := (Array.getElem?_eq_some_iff.1 hS.blk0).1
  obtain ⟨a1, c1, rfl, _, _⟩ := hRW.hv
  obtain ⟨RT, hRT⟩ : ∃ RT, reasonsT vs pt (con, b, a) = RT := ⟨_, rfl⟩
  have HRT : Hid (reasonsT vs pt (con, b, a) = RT) := hRT
  rw [hRT]
  have HRV : Hid (∀ Y, Below w.heap.size w Y → RulesAt Y r (.slice a1 (List.length vs) c1) pv cv vs pt cs) := fun Y hY => RulesAt.below hY hRW
  clear hva hbw hab hS hR hRW hpts hq hg0 hRT
  go_enter Tryz.func283, Tryz.ntmps283
  go_wp2_with fail
  refine (whole_any vs HVO.out _ _ (HRV.out _ (below_alloc _ _)).hv).mono ?_
  rintro e w1 ⟨rfl, hb2⟩
  rw [HQ.out]
  have HB1 : Hid (Below w.heap.size w w1) := (below_alloc _ _).trans (hb2.mono (by simp))
  have HBC : Hid (w1.heap[w.heap.size]? = some (.cells #[.int .i64 (con : Int)] 3)) := (hb2.block w.heap.size (by simp)).trans (heap_alloc_new w _)
  clear hb2 r0 rl hb1 hl0
  by_cases ha0 : a = 0
  · subst ha0
    have HE : Hid (RT = [reasonOf vs con (whyP vs pts [] g0)]) := by show _ = _; rw [← HRT.out, reasons_single1 vs pt con b pts HP.out, HG.out]
    go_wp2_with fail
    have HB3 : Hid (Below w.heap.size w (w1.alloc (.cells #[.int .u64 (g0 : Int)] 183))) := HB1.out.alloc HB1.out.size _
    refine (radd_any vs HVO.out pt cs r _ pv cv w0 HRL.out con pts HP.out g0 HGW.out [] (by simp) (.slice none 0 0) w.heap.size w1.heap.size ov L (by omega) _ (HS.out.below HB3.out) (nil_cla _) ?_ ?_ ?_ ?_).mono ?_
    · exact blk9 (((below_alloc w1 _).block w.heap.size (Array.getElem?_eq_some_iff.1 HBC.out).1).trans HBC.out) 0 _ rfl
    · exact World.cell?_alloc_at _ _ _ 0 (by simp)
    · have := (Array.getElem?_eq_some_iff.1 HBC.out).1
      simp; omega
    · simp
    rintro e w4 ⟨rfl, ov', x, hx, hS4, hf4⟩
    have HF : Hid (ReaS w0 r w4 ov' (L ++ [x])) := hS4
    have HX : Hid ([x].map (·.1) = RT) := by show _ = _; rw [HE.out, ← hx]; rfl
    clear hS4 hf4 hx
    go_wp2
    refine bodyPost_ret (results_none rfl _ _ _) rfl ?_
    exact ⟨rfl, ov', [x], HX.out, HF.out⟩
  · have HE : Hid (RT = (litsP vs (lessN b a)).map fun l => reasonOf vs con (whyP vs pts [⟨l.var, 4, l.n⟩] g0)) := by show _ = _; rw [← HRT.out, reasons_many vs pt con b a ha0 pts HP.out, HG.out]
    have ha1 : ((a : Int) == 0) = false := by simpa using ha0
    have hnt := bits_andNot_u64 b a (by have := HB36.out; omega) (by have := HA36.out; omega)
    obtain ⟨d, hd⟩ : ∃ d, lessN b a = d := ⟨_, rfl⟩
    have HDW : Hid (∀ i, d.testBit i = true → (wholeP vs).testBit i = true) := fun i hi => by
      rw [← hd, testBit_less, Bool.and_eq_true] at hi
      exact HBW.out i hi.1
    rw [hd] at hnt HE
    obtain ⟨l, hl⟩ : ∃ l, litsP vs d = l := ⟨_, rfl⟩
    have HLD : Hid (litsP vs d = l) := hl
    have hl36 : l.length ≤ 36 := by rw [← hl]; exact lits_len vs d
    rw [hl] at HE
    clear hd hl ha0
    have HB3 : Hid (Below w.heap.size w (w1.alloc (.cells #[.int .u64 (g0 : Int)] 183))) := HB1.out.alloc HB1.out.size _
    have HBG : Hid ((w1.alloc (.cells #[.int .u64 (g0 : Int)] 183)).heap[w1.heap.size]? = some (.cells #[.int .u64 (g0 : Int)] 183)) := heap_alloc_new w1 _
    have HBC2 : Hid ((w1.alloc (.cells #[.int .u64 (g0 : Int)] 183)).heap[w.heap.size]? = some (.cells #[.int .i64 (con : Int)] 3)) := ((below_alloc w1 _).block w.heap.size (Array.getElem?_eq_some_iff.1 HBC.out).1).trans HBC.out
    obtain ⟨G, hG⟩ : ∃ G, w1.heap.size = G := ⟨_, rfl⟩
    obtain ⟨V, hV⟩ : ∃ V, w1.alloc (.cells #[.int .u64 (g0 : Int)] 183) = V := ⟨_, rfl⟩
    go_upto_region 5 with (fail)
    rw [hG] at HBG
    rw [hV] at HB3 HBG HBC2
    have b1 : V.cell? ⟨w0.heap.size, 0, none⟩ = some (.pointer (some ⟨r, 0, none⟩)) := blk9 (HS.out.below HB3.out).blk0 0 _ rfl
    have r0 := (HRV.out _ HB3.out).c0
    clear hG hV
    go_wp2_with fail
    refine (flits_any vs HVO.out d HDW.out _ _ (HRV.out _ HB3.out).hv (HRV.out _ HB3.out).tab).mono ?_
    rintro e w5 ⟨y, rfl, hy, hb5⟩
    rw [HLD.out] at hy
    have HY : Hid (LArg w5 y l) := hy.arg
    have HYO : Hid (LOwn V.heap.size w5 y l) := hy
    have HB5 : Hid (Below V.heap.size V w5) := hb5
    obtain ⟨ay, cy, rfl⟩ := own_form (show w5.ownsRow _ _ _ _ _ _ from hy)
    have HYB : Hid (∀ g, (Value.slice ay l.length cy).ownBlock = some g → w0.heap.size + 2 ≤ g) := fun g hg => by have h1 := ((show w5.ownsRow _ _ _ _ _ _ from hy).lt g hg).1; have h2 := (Array.getElem?_eq_some_iff.1 (HS.out.below HB3.out).blk).1; omega
    clear hy hb5 b1 r0
    go_wp2_with fail
    go_loopw [33] (fun i wr => ∃ (k : Nat), k ≤ l.length ∧ i = .int .i64 k ∧ Hid (∃ (ov2 : Value) (L2 : List RV), Hid (L2.map (·.1) = RT.take k) ∧ Hid (ReaS w0 r wr ov2 (L ++ L2)) ∧ Hid (LOwn (w0.heap.size + 2) wr (.slice ay l.length cy) l) ∧ Hid (wr.heap[w.heap.size]? = some (.cells #[.int .i64 (con : Int)] 3)) ∧ Hid (wr.heap[G]? = some (.cells #[.int .u64 (g0 : Int)] 183)))) (fun i _ => l.length - (intOf i).toNat)
    case atStart =>
      refine ⟨0, by omega, rfl, ov, [], rfl, ?_, own_lower ?_ HYO.out, (HB5.out.block _ (Array.getElem?_eq_some_iff.1 HBC2.out).1).trans HBC2.out, (HB5.out.block _ (Array.getElem?_eq_some_iff.1 HBG.out).1).trans HBG.out⟩
      · rw [List.append_nil]; exact (HS.out.below HB3.out).below HB5.out
      · have := (Array.getElem?_eq_some_iff.1 (HS.out.below HB3.out).blk).1; omega
    case round =>
      obtain ⟨k, hk, rfl, hrest⟩ := hrel
      obtain ⟨ov2, L2, hmp, hS2, hown, hbc, hbg⟩ := hrest.out
      clear hrest
      have HLL2 : Hid (L2.length = k) := by
        have h1 := congrArg List.length hmp.out
        rw [List.length_map, List.length_take, HE.out, List.length_map] at h1
        show _ = _
        omega
      by_cases hlt : k < l.length
      · obtain ⟨t, ht⟩ : ∃ t, l[k]? = some t := ⟨l[k], by simp [hlt]⟩
        obtain ⟨q2, c2, he2, _, hr2⟩ := hown.out.arg
        injection he2 with he2 he3 he4
        clear he3 he4
        obtain ⟨b2, o2, hq2, hlt2, t0, t1, t2⟩ := hr2 k t ht
        rw [hq2] at he2
        have HRTK : Hid (RT[k]? = some (reasonOf vs con (whyP vs pts [⟨t.var, 4, t.n⟩] g0))) := by show _ = _; rw [HE.out, List.getElem?_map, ht]; rfl
        subst he2
        clear hr2 ht
        have HBA : Hid (Below wr.heap.size wr ((wr.alloc (.cells #[.int .i64 t.var, .int .i64 t.op, .int .i64 t.n] 88)).alloc (.cells #[.int .i64 t.var, .int .i64 4, .int .i64 t.n] 88))) := (below_alloc _ _).alloc (by simp) _
        have HLA : Hid (LArg ((wr.alloc (.cells #[.int .i64 t.var, .int .i64 t.op, .int .i64 t.n] 88)).alloc (.cells #[.int .i64 t.var, .int .i64 4, .int .i64 t.n] 88)) (.slice (some ⟨wr.heap.size + 1, 0, none⟩) 1 1) [⟨t.var, 4, t.n⟩]) := by
          have h1 : LOwn (wr.heap.size + 1) ((wr.alloc (.cells #[.int .i64 t.var, .int .i64 t.op, .int .i64 t.n] 88)).alloc (.cells #[.int .i64 t.var, .int .i64 4, .int .i64 t.n] 88)) (.slice (some ⟨wr.heap.size + 1, 0, none⟩) 1 1) [⟨t.var, 4, t.n⟩] := by
            have h2 := World.ownsRow_lit (base := wr.heap.size + 1) (e := 88) (size := 3) (wr.alloc (.cells #[.int .i64 t.var, .int .i64 t.op, .int .i64 t.n] 88)) #[.int .i64 t.var, .int .i64 4, .int .i64 t.n] 1 (by simp) (by unfold maxLen; omega) rfl
            rw [World.size_alloc] at h2
            exact h2
          exact h1.arg
        go_wp2_with fail
        have HSA := HBA.out.size
        refine (radd_any vs HVO.out pt cs r _ pv cv w0 HRL.out con pts HP.out g0 HGW.out [⟨t.var, 4, t.n⟩] (by simp) _ w.heap.size G ov2 (L ++ L2) (by rw [List.length_append, HLL2.out]; omega) _ (hS2.out.below HBA.out) HLA.out ?_ ?_ ?_ ?_).mono ?_
        · exact blk9 ((HBA.out.block _ (Array.getElem?_eq_some_iff.1 hbc.out).1).trans hbc.out) 0 _ rfl
        · exact blk9 ((HBA.out.block _ (Array.getElem?_eq_some_iff.1 hbg.out).1).trans hbg.out) 0 _ rfl
        · exact Nat.lt_of_lt_of_le (Array.getElem?_eq_some_iff.1 hbc.out).1 HBA.out.size
        · exact Nat.lt_of_lt_of_le (Array.getElem?_eq_some_iff.1 hbg.out).1 HBA.out.size
        rintro e w6 ⟨rfl, ov6, x6, hx6, hS6, hf6⟩
        have HNX1 : Hid (¬ (fun k => k = w0.heap.size + 1 ∨ ov2.ownBlock = some k) w.heap.size) := fun hq => by
          rcases hq with hq | hq
          · have h1 := hS2.out.blk; rw [← hq, hbc.out] at h1; injection h1 with h1; injection h1 with _ h2; exact absurd h2 (by decide)
          · exact blk_not_own hS2.out.own hbc.out (by decide) hq
        have HNX2 : Hid (¬ (fun k => k = w0.heap.size + 1 ∨ ov2.ownBlock = some k) G) := fun hq => by
          rcases hq with hq | hq
          · have h1 := hS2.out.blk; rw [← hq, hbg.out] at h1; injection h1 with h1; injection h1 with _ h2; exact absurd h2 (by decide)
          · exact blk_not_own hS2.out.own hbg.out (by decide) hq
        have HF6 : Hid (Fr (fun k => k = w0.heap.size + 1 ∨ ov2.ownBlock = some k) wr w6) := (Fr.below HBA.out).trans hf6
        have HS6 : Hid (ReaS w0 r w6 ov6 (L ++ (L2 ++ [x6]))) := by rw [← List.append_assoc]; exact hS6
        have HM6 : Hid ((L2 ++ [x6]).map (·.1) = RT.take (k + 1)) := by show _ = _; rw [List.map_append, hmp.out, List.take_add_one, HRTK.out, ← hx6]; rfl
        have HO6 : Hid (LOwn (w0.heap.size + 2) w6 (.slice (some ⟨b2, o2, none⟩) l.length cy) l) := own_frx hown.out HF6.out fun g hg hX => by
          rcases hX with hX | hX
          · have := ((show wr.ownsRow _ _ _ _ _ _ from hown.out).lt g hg).1; omega
          · rcases own_apart (show wr.ownsRow _ _ _ _ _ _ from hown.out) hS2.out.own (by decide) with h1 | h1
            · rw [h1] at hg; cases hg
            · exact h1 (by rw [hg, hX])
        have HC6 : Hid (w6.heap[w.heap.size]? = some (.cells #[.int .i64 (con : Int)] 3)) := fr_cell HF6.out hbc.out HNX1.out
        have HG6 : Hid (w6.heap[G]? = some (.cells #[.int .u64 (g0 : Int)] 183)) := fr_cell HF6.out hbg.out HNX2.out
        clear hS6 hf6 hx6
        go_wp2
        go_roundw
        case rel => exact ⟨k + 1, by omega, by go_num, ov6, L2 ++ [x6], HM6, HS6, HO6, HC6, HG6⟩
        case measure => simp [intOf]; omega
      · have HFM : Hid (L2.map (·.1) = RT) := by
          have h1 := hmp.out
          rw [List.take_of_length_le (by rw [HE.out, List.length_map]; omega)] at h1
          exact h1
        go_wp2
        go_end0
        exact ⟨rfl, ov2, L2, HFM.out, hS2.out⟩
end Go.Proofs.YtdjbejlbmaiocagGreatDoor
/-
  WALKS: package follow: reasons, and whether they are enough.
-/
namespace Go.Proofs.YtdjbejlbmaiocagGreatDoor
open Go.RowKit

theorem reasonsT_len (vs : List MVar) (pt : List (List Nat)) (t : Nat × Nat × Nat) : (reasonsT vs pt t).length ≤ 36 := by
  unfold reasonsT
  split
  · simp
  · rw [List.length_map]; exact lits_len _ _
theorem enters_rtell (args : Array Value) (w' : World) : Sem.run Tryz.prog (callFunc 283 args) w' = .ok (.enter 283 args) w' := by
  simp [callFunc, go_sem, Tryz.func283, Tryz.f283]
/-- What is gathered so far. -/
def ReaI (vs : List MVar) (pt : List (List Nat)) (w0 : World) (r : Nat) (T : List (Nat × Nat × Nat)) (w : World) : Prop :=
  ∃ ov L, ReaS w0 r w ov L ∧ L.map (·.1) = T.flatMap (reasonsT vs pt) ∧ L.length ≤ 36 * T.length ∧ T.length ≤ 37
theorem teller_reasons (vs : List MVar) (hva : VarsAll vs) (pt : List (List Nat)) (cs : List Nat) (r : Nat) (sv pv cv : Value) (w0 : World) (hR : RulesAt w0 r sv pv cv vs pt cs) :
    Teller 283 #[.pointer (some ⟨w0.heap.size, 0, none⟩), .pointer (some ⟨w0.heap.size + 1, 0, none⟩)] vs pt (ReaI vs pt w0 r) := by
  refine ⟨enters_rtell, fun T w w' h hb => ?_, fun T con b a w h hT hcon hbw hab => ?_⟩
  · obtain ⟨ov, L, h1, h2⟩ := h
    exact ⟨ov, L, h1.below hb, h2⟩
  · obtain ⟨ov, L, h1, h2, h3, h4⟩ := h
    refine (rtell_any vs hva pt cs r sv pv cv w0 hR con b a hcon hbw hab ov L (by omega) w h1).mono ?_
    rintro e w' ⟨rfl, ov', L', h5, h6⟩
    refine ⟨rfl, ov', L ++ L', h6, ?_, ?_, ?_⟩
    · rw [List.map_append, h2, h5, List.flatMap_append]; simp
    · have h7 := congrArg List.length h5
      rw [List.length_map] at h7
      have h8 := reasonsT_len vs pt (con, b, a)
      rw [List.length_append, List.length_append, List.length_singleton]
      omega
    · rw [List.length_append, List.length_singleton]; omega

set_option maxHeartbeats 1600000 in
set_option maxRecDepth 100000 in
theorem reasons_any (vs : List MVar) (hva : VarsAll vs) (hn1 : 1 ≤ vs.length) (pt : List (List Nat)) (cs : List Nat) (h : Nat) (hh : h < 2 ^ 36) (r : Nat) (sv pv cv : Value) (w : World) (hR : RulesAt w r sv pv cv vs pt cs) :
    Calls Tryz.prog 256 #[.pointer (some ⟨r, 0, none⟩), .int .u64 h] w fun e w' => ∃ v L, e = .returned v ∧ L.map (·.1) = reasonsP vs cs pt h ∧ ROwn w.heap.size w' v L ∧ (∀ x ∈ L, LOwn w.heap.size w' x.2 x.1.1.cla) ∧ L.length ≤ 1400 ∧ Below w.heap.size w w' := by
  have HR : Hid (RulesAt w r sv pv cv vs pt cs) := hR
  have HVO : Hid (VarsAll vs) := hva
  have H1 : Hid (1 ≤ vs.length) := hn1
  have HH : Hid (h < 2 ^ 36) := hh
  have HI : Hid (ReaI vs pt w r [] ((w.alloc (.cells #[.pointer (some ⟨r, 0, none⟩)] 117)).alloc (.cells #[.slice none 0 0] 284))) := by
    refine ⟨.slice none 0 0, [], ⟨?_, ?_, World.ownsRow_nil _ _ _ _, (fun x hx => by cases hx), ?_⟩, rfl, by simp, by simp⟩
    · exact ((below_alloc (w.alloc (.cells #[.pointer (some ⟨r, 0, none⟩)] 117)) (.cells #[.slice none 0 0] 284)).block w.heap.size (by simp)).trans (heap_alloc_new w _)
    · have h := heap_alloc_new (w.alloc (.cells #[.pointer (some ⟨r, 0, none⟩)] 117)) (.cells #[.slice none 0 0] 284)
      rw [World.size_alloc] at h
      exact h
    · exact (below_alloc _ _).alloc (by simp) _
  clear hR hva hn1 hh
  go_enter Tryz.func256, Tryz.ntmps256
  go_wp2_with fail
  refine (narrow_any vs HVO.out H1.out cs pt h HH.out r sv pv cv _ _ (ReaI vs pt w r) (teller_reasons vs HVO.out pt cs r sv pv cv w HR.out) (fun T Y hY => by obtain ⟨ov, L, h1, _⟩ := hY; exact RulesAt.below h1.fr HR.out) _ HI.out).mono ?_
  rintro e w2 ⟨rfl, ov, L, hS, hmp, hl1, hl2⟩
  have HS : Hid (ReaS w r w2 ov L) := hS
  have HMP : Hid (L.map (·.1) = reasonsP vs cs pt h) := hmp
  have HLL : Hid (L.length ≤ 1400) := by show _ ≤ _; omega
  have k0 : w2.cell? ⟨w.heap.size + 1, 0, none⟩ = some ov := blk9 hS.blk 0 _ rfl
  obtain ⟨ao, co, rfl⟩ := own_form (show w2.ownsRow _ _ _ _ _ _ from hS.own)
  clear hS hmp hl1 hl2
  go_wp2
  go_ret
  exact ⟨_, L, rfl, HMP.out, rown_lower (by omega) HS.out.own, fun x hx => own_lower (by omega) (HS.out.cl x hx), HLL.out, HS.out.fr⟩

set_option maxHeartbeats 800000 in
set_option maxRecDepth 100000 in
theorem clone_parts (l : List Nat) (hl : l.length ≤ 200000) (u : Value) (w : World) (hu : PArg w u l) :
    Calls Tryz.prog 254 #[u] w fun e w' => ∃ x, e = .returned x ∧ w'.ownsRow w.heap.size 183 1 x l.length (u64s l) ∧ Below w.heap.size w w' := by
  obtain ⟨i0, hi0, hz0, hz1, hz2⟩ := info_parts Tryz.infoPart
  have HU : Hid (∀ w', Below w.heap.size w w' → PArg w' u l) := fun w' h => PArg.below h hu
  have q22 : ∀ (w : World) (a : Option Addr) (n c n' c' : Nat), (binOp .eql 180 (.slice a n c) (.slice none n' c')).run Tryz.prog w = .ok (.bool a.isNone) w := fun w a n c n' c' => Lib.run_eql_slice_nil w _ _ a n c n' c' Tryz.underPart
  obtain ⟨a, c, rfl, hm, hr⟩ := hu
  cases a with
  | none =>
    have : l = [] := by
      cases l with
      | nil => rfl
      | cons z r => obtain ⟨_, b, off, hq, _⟩ := hr 0 z rfl; cases hq
    subst this
    clear HU
    go_enter Tryz.func254, Tryz.ntmps254
    go_wp2
    go_ret
    exact ⟨_, rfl, World.ownsRow_nil _ _ _ _, Below.refl _ _⟩
  | some ad =>
    have HL : Hid (l.length ≤ 200000) := hl
    have HC : Hid (∀ (j : Nat) (u : Value), (u64s l)[j]? = some u → (w.alloc (.cells #[] 183)).cell? (ad.add j) = some u) := fun j y hy => by
      unfold u64s at hy
      rw [List.getElem?_map] at hy
      cases hz : l[j]? with
      | none => rw [hz] at hy; cases hy
      | some z =>
        rw [hz] at hy
        obtain ⟨_, b, off, hq, hlt, hc⟩ := hr j z hz
        cases hq
        rw [add_at]
        have : y = .int .u64 (z : Int) := by simpa using hy.symm
        rw [this]
        exact ((below_alloc w _).cell (p := ⟨b, off + j, none⟩) hlt).trans hc
    have H1 : Hid (∀ u ∈ u64s l, u.oneCell' = true) := fun u hu => by
      obtain ⟨z, _, rfl⟩ := List.mem_map.1 hu
      rfl
    have HFL : Hid ((u64s l).length = l.length * 1) := by show _ = _; unfold u64s; simp
    have HM0 : Hid ((w.alloc (.cells #[] 183)).ownsRow w.heap.size 183 1 (.slice (some ⟨w.heap.size, 0, none⟩) 0 0) 0 []) := World.ownsRow_made w #[] 0 (Nat.le_refl _) (Nat.zero_le _) (by simp)
    clear hl hr hm
    go_enter Tryz.func254, Tryz.ntmps254
    go_wp2_with (at_builtin; refine wpList_append_own _ rfl _ _ 180 rfl w.heap.size 183 i0 (.int .u64 0) 1 8 Tryz.underPart hi0 hz0 hz1 hz2 rfl (by decide) _ _ _ rfl HM0.out ad l.length c (u64s l) rfl HFL.out HC.out H1.out ?c1 ?c2 ?c3 ?_)
    case c1 => have := HL.out; unfold maxLen; omega
    case c2 => have := HL.out; omega
    case c3 => simp
    intro v3 w3 hown3 hgrow _
    have HB3 : Hid (Below w.heap.size w w3) := (below_alloc _ _).grown hgrow (by simp) (by intro k hk; simp [Value.ownBlock] at hk; omega)
    have HO3 : Hid (w3.ownsRow w.heap.size 183 1 v3 l.length (u64s l)) := by show World.ownsRow _ _ _ _ _ _ _; simpa using hown3
    obtain ⟨av, cv, rfl⟩ := own_form hown3
    clear hown3 hgrow
    go_wp2
    go_ret
    exact ⟨_, by simp, HO3.out, HB3.out⟩
theorem reason_cells {w : World} {v : Value} {c : List RV} (h : RvArg w v c) (k : Nat) (x : RV) (hx : c[k]? = some x) : ∃ a n cc b off, v = .slice a n cc ∧ n = c.length ∧ n ≤ cc ∧ cc ≤ maxLen ∧ a = some ⟨b, off, none⟩ ∧ b < w.heap.size ∧
    w.cell? ⟨b, off + k * 4, none⟩ = some (.int .i64 x.1.1.kind) ∧ w.cell? ⟨b, off + k * 4 + 1, none⟩ = some (.int .i64 x.1.1.con) ∧ w.cell? ⟨b, off + k * 4 + 2, none⟩ = some x.2 ∧ w.cell? ⟨b, off + k * 4 + 3, none⟩ = some (.int .u64 (x.1.2 : Int)) := by
  obtain ⟨a, cc, hv, hm, hr⟩ := h
  have hk : k < c.length := (List.getElem?_eq_some_iff.1 hx).1
  have hw := reasons_wide c
  have get : ∀ (j : Nat) (u : Value), j < 4 → (reasonCs x)[j]? = some u → ((c.map reasonCs).flatten)[k * 4 + j]? = some u := by
    intro j u hj hu
    have h1 : (((c.map reasonCs).flatten).drop (k * 4))[j]? = some u := by
      rw [flat_drop 4 k _ hw, ← List.map_drop, List.drop_eq_getElem_cons hk]
      have e : c[k] = x := by rw [List.getElem?_eq_getElem hk] at hx; exact Option.some.inj hx
      rw [List.map_cons, List.flatten_cons, e, List.getElem?_append_left (by show j < 4; exact hj)]
      exact hu
    rw [List.getElem?_drop] at h1
    exact h1
  obtain ⟨b, off, ha, hlt, c0⟩ := hr _ _ (get 0 _ (by omega) rfl)
  obtain ⟨b1, o1, ha1, _, c1⟩ := hr _ _ (get 1 _ (by omega) rfl)
  obtain ⟨b2, o2, ha2, _, c2⟩ := hr _ _ (get 2 _ (by omega) rfl)
  obtain ⟨b3, o3, ha3, _, c3⟩ := hr _ _ (get 3 _ (by omega) rfl)
  rw [ha] at ha1 ha2 ha3
  cases ha1; cases ha2; cases ha3
  rw [List.length_map] at hv hm
  exact ⟨a, _, cc, b, off, hv, rfl, hm.1, hm.2, ha, hlt, c0, by rw [Nat.add_assoc]; exact c1, by rw [Nat.add_assoc]; exact c2, by rw [Nat.add_assoc]; exact c3⟩
end Go.Proofs.YtdjbejlbmaiocagGreatDoor
/-
  WALKS: package follow: Left, Least.
-/
namespace Go.Proofs.YtdjbejlbmaiocagGreatDoor
open Go.RowKit

set_option maxHeartbeats 400000 in
theorem leftnone_any (x y z : Value) (w : World) : Calls Tryz.prog 192 #[x, y, z] w fun e w' => e = .returned (.tuple #[]) ∧ w' = w := by
  go_enter Tryz.func192, Tryz.ntmps192
  go_wp2
  go_end0
  exact ⟨rfl, rfl⟩
theorem enters_leftnone (args : Array Value) (w' : World) : Sem.run Tryz.prog (callFunc 192 args) w' = .ok (.enter 192 args) w' := by
  simp [callFunc, go_sem, Tryz.func192, Tryz.f192]
theorem teller_none (vs : List MVar) (pt : List (List Nat)) (W : World) : Teller 192 #[] vs pt (fun _ w => Below W.heap.size W w) :=
  ⟨enters_leftnone, fun _ _ _ h hb => h.trans (hb.mono h.size), fun _ _ _ _ w h _ _ _ _ => (leftnone_any _ _ _ w).mono fun _ _ ⟨h1, h2⟩ => ⟨h1, by rw [h2]; exact h⟩⟩

set_option maxHeartbeats 800000 in
set_option maxRecDepth 100000 in
theorem rleft_any (vs : List MVar) (hva : VarsAll vs) (hn1 : 1 ≤ vs.length) (cs : List Nat) (pt : List (List Nat)) (cl : Cla) (r : Nat) (sv pv cv u : Value) (w : World) (hR : RulesAt w r sv pv cv vs pt cs) (hu : LArg w u cl) :
    Calls Tryz.prog 132 #[.pointer (some ⟨r, 0, none⟩), u] w fun e w' => e = .returned (.int .u64 ((narrowP vs cs pt (heldP vs cl) : Nat) : Int)) ∧ Below w.heap.size w w' := by
  have HR : Hid (RulesAt w r sv pv cv vs pt cs) := hR
  have HU : Hid (LArg w u cl) := hu
  have HVO : Hid (VarsAll vs) := hva
  have H1 : Hid (1 ≤ vs.length) := hn1
  have g0 := hR.c0
  obtain ⟨h, hh⟩ : ∃ h, heldP vs cl = h := ⟨_, rfl⟩
  have HH : Hid (heldP vs cl = h) := hh
  have HH36 : Hid (h < 2 ^ 36) := by rw [← hh]; exact of_lt vs hva.1 _
  rw [hh]
  obtain ⟨a, c, rfl, _, _⟩ := hR.hv
  obtain ⟨a2, c2, rfl, _, _⟩ := hu
  clear hR hva hn1 hh
  go_enter Tryz.func132, Tryz.ntmps132
  go_wp2_with fail
  refine (held_any vs HVO.out cl _ _ _ HR.out.hv HU.out).mono ?_
  rintro e w1 ⟨rfl, hb1⟩
  rw [HH.out]
  have HB1 : Hid (Below w.heap.size w w1) := hb1
  clear hb1 g0
  go_wp2_with fail
  refine (narrow_any vs HVO.out H1.out cs pt h HH36.out r _ pv cv _ #[] _ (teller_none vs pt w) (fun T Y hY => RulesAt.below hY HR.out) _ HB1.out).mono ?_
  rintro e w2 ⟨rfl, hb2⟩
  have HB2 : Hid (Below w.heap.size w w2) := hb2
  clear hb2
  go_wp2
  go_ret
  exact ⟨rfl, HB2.out⟩

set_option maxHeartbeats 800000 in
set_option maxRecDepth 100000 in
theorem nothing_any (vs : List MVar) (hva : VarsAll vs) (hn1 : 1 ≤ vs.length) (cs : List Nat) (pt : List (List Nat)) (cl : Cla) (r bx : Nat) (sv pv cv u : Value) (w : World) (hR : RulesAt w r sv pv cv vs pt cs) (hu : LArg w u cl) (hx : w.cell? ⟨bx, 0, none⟩ = some (.pointer (some ⟨r, 0, none⟩))) :
    Calls Tryz.prog 251 #[u, .pointer (some ⟨bx, 0, none⟩)] w fun e w' => e = .returned (.bool (nothingP vs cs pt cl)) ∧ Below w.heap.size w w' := by
  have HR : Hid (RulesAt w r sv pv cv vs pt cs) := hR
  have HU : Hid (LArg w u cl) := hu
  have HVO : Hid (VarsAll vs) := hva
  have H1 : Hid (1 ≤ vs.length) := hn1
  obtain ⟨B, hB⟩ : ∃ B, nothingP vs cs pt cl = B := ⟨_, rfl⟩
  obtain ⟨N, hN⟩ : ∃ N : Nat, narrowP vs cs pt (heldP vs cl) = N := ⟨_, rfl⟩
  have HN : Hid (narrowP vs cs pt (heldP vs cl) = N) := hN
  have HB : Hid (B = ((N : Int) == 0)) := by
    show _ = _
    rw [← hB]; unfold nothingP; rw [hN]
    by_cases h0 : N = 0
    · rw [h0]; rfl
    · have h1 : ((N : Int) == 0) = false := by simpa using h0
      rw [h1]; simpa using h0
  rw [hB]
  obtain ⟨a2, c2, rfl, _, _⟩ := hu
  clear hR hva hn1 hB hN
  go_enter Tryz.func251, Tryz.ntmps251
  go_wp2_with fail
  refine (rleft_any vs HVO.out H1.out cs pt cl r sv pv cv _ _ HR.out HU.out).mono ?_
  rintro e w1 ⟨rfl, hb1⟩
  rw [HN.out]
  have HB1 : Hid (Below w.heap.size w w1) := hb1
  clear hb1 hx
  go_wp2
  go_ret
  exact ⟨ret_bool HB.out.symm, HB1.out⟩
theorem enters_nothing (args : Array Value) (w' : World) : Sem.run Tryz.prog (callFunc 251 args) w' = .ok (.enter 251 args) w' := by
  simp [callFunc, go_sem, Tryz.func251, Tryz.f251]
/-- What Least answers. -/
def leastA (vs : List MVar) (cs : List Nat) (pt : List (List Nat)) (c : Cla) : Cla × Bool := if nothingP vs cs pt c then (leastC vs cs pt c, true) else ([], false)

set_option maxHeartbeats 800000 in
set_option maxRecDepth 100000 in
theorem rleast_any (vs : List MVar) (hva : VarsAll vs) (hn1 : 1 ≤ vs.length) (cs : List Nat) (pt : List (List Nat)) (cl : Cla) (hcl : cl.length ≤ 900) (r : Nat) (sv pv cv u : Value) (w : World) (hR : RulesAt w r sv pv cv vs pt cs) (hu : LArg w u cl) :
    Calls Tryz.prog 193 #[.pointer (some ⟨r, 0, none⟩), u] w fun e w' => ∃ x, e = .returned (.tuple #[x, .bool (leastA vs cs pt cl).2]) ∧ LOwn w.heap.size w' x (leastA vs cs pt cl).1 ∧ Below w.heap.size w w' := by
  have HR : Hid (∀ Y, Below w.heap.size w Y → RulesAt Y r sv pv cv vs pt cs) := fun Y hY => RulesAt.below hY hR
  have HU : Hid (∀ Y, Below w.heap.size w Y → LArg Y u cl) := fun Y hY => LArg.below hY hu
  have HVO : Hid (VarsAll vs) := hva
  have H1 : Hid (1 ≤ vs.length) := hn1
  have HCL : Hid (cl.length ≤ 900) := hcl
  obtain ⟨R, hRR⟩ : ∃ R, leastA vs cs pt cl = R := ⟨_, rfl⟩
  obtain ⟨B, hB⟩ : ∃ B, nothingP vs cs pt cl = B := ⟨_, rfl⟩
  have HE : Hid (R = if B then (leastC vs cs pt cl, true) else ([], false)) := by show _ = _; rw [← hRR, ← hB]; rfl
  have HBE : Hid (nothingP vs cs pt cl = B) := hB
  rw [hRR]
  obtain ⟨a2, c2, rfl, _, _⟩ := hu
  have HX : Hid (∀ Y, Below (w.alloc (.cells #[.pointer (some ⟨r, 0, none⟩)] 117)).heap.size (w.alloc (.cells #[.pointer (some ⟨r, 0, none⟩)] 117)) Y → Y.cell? ⟨w.heap.size, 0, none⟩ = some (.pointer (some ⟨r, 0, none⟩))) := fun Y hY => (hY.cell (by simp)).trans (World.cell?_alloc_at _ _ _ 0 (by simp))
  clear hR hva hn1 hB hRR hcl
  go_enter Tryz.func193, Tryz.ntmps193
  go_wp2_with fail
  refine (nothing_any vs HVO.out H1.out cs pt cl r w.heap.size sv pv cv _ _ (HR.out _ (below_alloc _ _)) (HU.out _ (below_alloc _ _)) (HX.out _ (Below.refl _ _))).mono ?_
  rintro e w1 ⟨rfl, hb1⟩
  rw [HBE.out]
  have HBA : Hid (Below (w.alloc (.cells #[.pointer (some ⟨r, 0, none⟩)] 117)).heap.size (w.alloc (.cells #[.pointer (some ⟨r, 0, none⟩)] 117)) w1) := hb1
  have HB1 : Hid (Below w.heap.size w w1) := (below_alloc _ _).trans (hb1.mono (by simp))
  clear hb1
  cases B
  · have HE2 : Hid (R = ([], false)) := HE.out
    go_wp2
    go_ret2
    exact ⟨_, by rw [HE2.out]; rfl, by rw [HE2.out]; exact World.ownsRow_nil _ _ _ _, HB1.out⟩
  · have HE2 : Hid (R = (leastC vs cs pt cl, true)) := HE.out
    go_wp2_with fail
    refine (least_lits 251 #[.pointer (some ⟨w.heap.size, 0, none⟩)] (nothingP vs cs pt) cl HCL.out _ _ (HU.out _ HB1.out) ⟨enters_nothing, fun c v Y hc hY hv => ?_⟩).mono ?_
    · have hYA := HBA.out.trans (hY.mono HBA.out.size)
      have hYW := HB1.out.trans (hY.mono HB1.out.size)
      exact nothing_any vs HVO.out H1.out cs pt c r w.heap.size sv pv cv _ _ (HR.out _ hYW) hv (HX.out _ hYA)
    rintro e w2 ⟨x, rfl, hx, hb2⟩
    have HO : Hid (LOwn w.heap.size w2 x (leastC vs cs pt cl)) := own_lower HB1.out.size hx
    have HB2 : Hid (Below w.heap.size w w2) := HB1.out.trans (hb2.mono HB1.out.size)
    obtain ⟨ax, cx, rfl⟩ := own_form (show w2.ownsRow _ _ _ _ _ _ from hx)
    clear hx hb2
    go_wp2
    go_ret2
    exact ⟨_, by rw [HE2.out]; rfl, by rw [HE2.out]; exact HO.out, HB2.out⟩
end Go.Proofs.YtdjbejlbmaiocagGreatDoor
/-
  WALKS: package follow: Steps.
-/
namespace Go.Proofs.YtdjbejlbmaiocagGreatDoor
open Go.RowKit

theorem PArg.lt36 {w : World} {v : Value} {l : List Nat} (h : PArg w v l) : ∀ z ∈ l, z < 2 ^ 36 := by
  intro z hz
  obtain ⟨a, c, _, _, hr⟩ := h
  obtain ⟨i, hi⟩ := List.mem_iff_getElem?.1 hz
  exact (hr i z hi).1
set_option maxHeartbeats 3200000 in
set_option maxRecDepth 100000 in
theorem senough_any (vs : List MVar) (hva : VarsAll vs) (hn1 : 1 ≤ vs.length) (pt : List (List Nat)) (cs : List Nat) (hcs : cs.length ≤ 100000) (h : Nat) (hh : h < 2 ^ 36) (r : Nat) (sv pv cv : Value) (c : List RV) (hcl : c.length ≤ 5000) (hc36 : ∀ x ∈ c, x.1.2 < 2 ^ 36) (hsl : ∀ x ∈ c, IsSl x) (v : Value) (b1 bh : Nat) (w : World) (hR : RulesAt w r sv pv cv vs pt cs) (hv : RvArg w v c)
    (h1 : w.cell? ⟨b1, 0, none⟩ = some (.pointer (some ⟨r, 0, none⟩))) (h2 : w.cell? ⟨bh, 0, none⟩ = some (.int .u64 h)) (hl1 : b1 < w.heap.size) (hl2 : bh < w.heap.size) :
    Calls Tryz.prog 253 #[v, .pointer (some ⟨b1, 0, none⟩), .pointer (some ⟨bh, 0, none⟩)] w fun e w' => e = .returned (.bool (enoughP vs cs h (c.map (·.1)))) ∧ Below w.heap.size w w' := by
  obtain ⟨i0, hi0, hz0, hz1, hz2⟩ := info_parts Tryz.infoPart
  have HR : Hid (∀ Y, Below w.heap.size w Y → RulesAt Y r sv pv cv vs pt cs) := fun Y hY => RulesAt.below hY hR
  have HV : Hid (∀ Y, Below w.heap.size w Y → RvArg Y v c) := fun Y hY => RvArg.below hY hv
  have HVO : Hid (VarsAll vs) := hva
  have H1 : Hid (1 ≤ vs.length) := hn1
  have HH : Hid (h < 2 ^ 36) := hh
  have HCS : Hid (cs.length ≤ 100000) := hcs
  have HC36 : Hid (∀ x ∈ c, x.1.2 < 2 ^ 36) := hc36
  have HCS36 : Hid (∀ z ∈ cs, z < 2 ^ 36) := PArg.lt36 hR.hc
  have HSL : Hid (∀ x ∈ c, IsSl x) := hsl
  have r2 := hR.c2
  have rl := hR.lt
  have r0' := hR.c0
  have HK1 : Hid (∀ Y, Below w.heap.size w Y → Y.cell? ⟨b1, 0, none⟩ = some (.pointer (some ⟨r, 0, none⟩)) ∧ Y.cell? ⟨bh, 0, none⟩ = some (.int .u64 h) ∧ Y.cell? ⟨r, 0, none⟩ = some sv ∧ b1 < Y.heap.size ∧ bh < Y.heap.size ∧ r < Y.heap.size) := fun Y hY =>
    ⟨(hY.cell (p := ⟨b1, 0, none⟩) hl1).trans h1, (hY.cell (p := ⟨bh, 0, none⟩) hl2).trans h2, (hY.cell (p := ⟨r, 0, none⟩) rl).trans r0', Nat.lt_of_lt_of_le hl1 hY.size, Nat.lt_of_lt_of_le hl2 hY.size, Nat.lt_of_lt_of_le rl hY.size⟩
  obtain ⟨B, hB⟩ : ∃ B, enoughP vs cs h (c.map (·.1)) = B := ⟨_, rfl⟩
  have HB : Hid (B = failsP vs (cs ++ c.map (·.1.2)) h) := by show _ = _; rw [← hB]; unfold enoughP; rw [List.map_map]; rfl
  rw [hB]
  obtain ⟨a1, c1, rfl, _, _⟩ := hR.hv
  obtain ⟨a2, c2, rfl, _, _⟩ := hR.hc
  obtain ⟨a3, c3, he3⟩ := rv_form hv
  subst he3
  clear hR hv hva hn1 hh hB hc36 hsl r0'
  go_enter Tryz.func253, Tryz.ntmps253
  go_wp2_with fail
  refine (clone_parts cs (by have := HCS.out; omega) _ _ (HR.out _ (Below.refl _ _)).hc).mono ?_
  rintro e w1 ⟨x, rfl, hx, hb1⟩
  have HX : Hid (w1.ownsRow w.heap.size 183 1 x cs.length (u64s cs)) := hx
  have HB1 : Hid (Below w.heap.size w w1) := hb1
  obtain ⟨ax, cx, rfl⟩ := own_form hx
  clear hx hb1 r2 rl h1 h2
  go_wp2_with fail
  go_loopw [5, 15] (fun o i wr => ∃ (k : Nat) (done : List Nat), k ≤ c.length ∧ i = .int .i64 k ∧ wr.ownsRow w.heap.size 183 1 o done.length (u64s done) ∧ Hid (done = cs ++ (c.take k).map (·.1.2)) ∧ Below w.heap.size w wr) (fun _ i _ => c.length - (intOf i).toNat)
  case atStart => exact ⟨0, cs, by omega, rfl, HX.out, by show _ = _; simp, HB1.out⟩
  case round =>
    obtain ⟨k, done, hk, rfl, hown, hdn, hbw⟩ := hrel
    have HOW : Hid (wr.ownsRow w.heap.size 183 1 u5 done.length (u64s done)) := hown
    have HBW : Hid (Below w.heap.size w wr) := hbw
    obtain ⟨ao, co, rfl⟩ := own_form hown
    have hdl : done.length ≤ 105000 := by rw [hdn.out, List.length_append, List.length_map, List.length_take]; have := HCS.out; omega
    clear hown hbw
    by_cases hlt : k < c.length
    · obtain ⟨t, ht⟩ : ∃ t, c[k]? = some t := ⟨c[k], by simp [hlt]⟩
      obtain ⟨a4, n4, c4, b4, o4, he4, hn4, hc41, hc42, ha4, hb4, q0, q1, q2, q3⟩ := reason_cells (HV.out _ HBW.out) k t ht
      injection he4 with he4 he5 he6
      rw [ha4] at he4
      subst he4
      obtain ⟨sa, ns, sc, hse⟩ := HSL.out t (List.mem_of_getElem? ht)
      rw [hse] at q2
      have HNX : Hid (done ++ [t.1.2] = cs ++ (c.take (k + 1)).map (·.1.2)) := by
        show _ = _
        rw [hdn.out, List.take_add_one, ht, List.map_append, ← List.append_assoc]; rfl
      have hcc : c.length ≤ c3 := by omega
      unfold maxLen at hc42
      have hcm : c3 ≤ 2 ^ 63 - 1 := by omega
      clear he5 he6 hc41 hc42 hn4 hse ha4 ht hdn
      obtain ⟨z, hz⟩ : ∃ z, t.1.2 = z := ⟨_, rfl⟩
      rw [hz] at q3 HNX
      have hbs := HBW.out.size
      have HBX : Hid (Below w.heap.size w (wr.alloc (.cells #[.int .i64 t.1.1.kind, .int .i64 t.1.1.con, .slice sa ns sc, .int .u64 (z : Int)] 287))) := HBW.out.alloc hbs _
      have HO1 : Hid ((wr.alloc (.cells #[.int .i64 t.1.1.kind, .int .i64 t.1.1.con, .slice sa ns sc, .int .u64 (z : Int)] 287)).ownsRow w.heap.size 183 1 (.slice ao done.length co) done.length (u64s done)) := HOW.out.alloc _
      clear hz
      go_upto_region 5 with (fail)
      obtain ⟨V, hV⟩ : ∃ V, wr.alloc (.cells #[.int .i64 t.1.1.kind, .int .i64 t.1.1.con, .slice sa ns sc, .int .u64 (z : Int)] 287) = V := ⟨_, rfl⟩
      have k3 : (wr.alloc (.cells #[.int .i64 t.1.1.kind, .int .i64 t.1.1.con, .slice sa ns sc, .int .u64 (z : Int)] 287)).cell? ⟨wr.heap.size, 3, none⟩ = some (.int .u64 (z : Int)) := World.cell?_alloc_at _ _ _ 3 (by simp)
      rw [hV] at HBX HO1 k3 ⊢
      clear hV q0 q1 q2 q3
      have hvs := HBX.out.size
      go_wp2_with (at_builtin; refine wpList_append_own _ rfl _ _ 180 rfl w.heap.size 183 i0 (.int .u64 0) 1 8 Tryz.underPart hi0 hz0 hz1 hz2 rfl (by decide) _ _ _ rfl (HO1.out.alloc _) ⟨V.heap.size, 0, none⟩ 1 1 [.int .u64 (z : Int)] rfl rfl (partD_laid V z) (by intro u hu; simp at hu; subst hu; rfl) ?c1 ?c2 ?c3 ?_)
      case c1 => unfold maxLen; omega
      case c2 => omega
      case c3 => simp; omega
      intro v6 w6 hown6 hg6 _
      have HO6 : Hid (w6.ownsRow w.heap.size 183 1 v6 (done ++ [z]).length (u64s (done ++ [z]))) := by
        show World.ownsRow _ _ _ _ _ _ _
        unfold u64s at *
        rw [List.length_append, List.map_append]; exact hown6
      have HB6 : Hid (Below w.heap.size w w6) := (HBX.out.alloc hvs _).grown hg6 (by simp; omega) (fun g hg => (HO1.out.lt g hg).1)
      clear hown6 hg6 k3
      go_wp2
      go_roundw
      case rel => exact ⟨k + 1, done ++ [z], by omega, by go_num, HO6.out, HNX, HB6.out⟩
      case measure => simp [intOf]; omega
    · have HFD : Hid (done = cs ++ c.map (·.1.2)) := by have h1 := hdn.out; rw [List.take_of_length_le (by omega)] at h1; exact h1
      have HPA : Hid (PArg wr (.slice ao done.length co) done) := own_parts HOW.out (by
        rw [HFD.out]
        intro z hz
        rcases List.mem_append.1 hz with h | h
        · exact HCS36.out z h
        · obtain ⟨x, hx, rfl⟩ := List.mem_map.1 h
          exact HC36.out x hx)
      obtain ⟨k1, k2, k3, m1, m2, m3⟩ := HK1.out _ HBW.out
      have HBF : Hid (B = failsP vs done h) := by show _ = _; rw [HB.out, HFD.out]
      have HFA : Hid (∀ Y, Below wr.heap.size wr Y → Calls Tryz.prog 130 #[.slice a1 (List.length vs) c1, .slice ao done.length co, .int .u64 (h : Int)] Y fun e w' => e = .returned (.bool B) ∧ Below Y.heap.size Y w') := fun Y hY => by
        rw [HBF.out]
        have hRY := HR.out Y (HBW.out.trans (hY.mono HBW.out.size))
        exact fails_any vs HVO.out H1.out done h HH.out _ _ Y hRY.hv (PArg.below hY HPA.out) hRY.tab
      clear hdn
      go_upto_region 7 with (fail)
      go_region_held3 (fun w' => Below wr.heap.size wr w' ∧ w'.cell? ⟨b1, 0, none⟩ = some (.pointer (some ⟨r, 0, none⟩)) ∧ w'.cell? ⟨bh, 0, none⟩ = some (.int .u64 h) ∧ w'.cell? ⟨r, 0, none⟩ = some (.slice a1 (List.length vs) c1))
        ((refine (fun (hB : Below wr.heap.size wr _) => ⟨hB, (hB.cell (p := ⟨b1, 0, none⟩) m1).trans k1, (hB.cell (p := ⟨bh, 0, none⟩) m2).trans k2, (hB.cell (p := ⟨r, 0, none⟩) m3).trans k3⟩ : Below wr.heap.size wr _ → _) ?_; first | exact (Below.refl _ _).drew | exact fen_call (by assumption) hbq))
        (first
          | (go_at_call 130; refine (HFA.out _ (show Below wr.heap.size wr _ ∧ _ by assumption).1).mono ?_; rintro e w3 ⟨rfl, hbq⟩; have hB3 := fen_call (by assumption) hbq))
      have HB3 : Hid (Below w.heap.size w w3) := HBW.out.trans (hB3.mono HBW.out.size)
      clear hbq hB3 k1 k2 k3
      go_wp2
      go_ret
      exact ⟨rfl, HB3.out⟩
theorem enters_enough (args : Array Value) (w' : World) : Sem.run Tryz.prog (callFunc 253 args) w' = .ok (.enter 253 args) w' := by
  simp [callFunc, go_sem, Tryz.func253, Tryz.f253]
end Go.Proofs.YtdjbejlbmaiocagGreatDoor
/-
  MEMORY: steps. WALK: package follow: Steps.
-/
namespace Go.Proofs.YtdjbejlbmaiocagGreatDoor
open Go.RowKit

theorem Tryz.infoStepF : (Tryz.prog.info? 93).map (fun i => (i.zero, i.size, i.bytes)) = some (some (.agg #[.int .i64 0, .int .i64 0, .slice none 0 0]), 3, 40) := by kernel_rfl
theorem Tryz.underStepsF : Tryz.prog.underlying 27 = some (.slice 93) := by kernel_rfl
/-- A step, and where its clause lies. -/
abbrev SV := MStep × Value
def stepCs (x : SV) : List Value := [.int .i64 x.1.kind, .int .i64 x.1.con, x.2]
/-- Steps in a row of one's own, each clause in one of its own. -/
def StOwn (base : Nat) (w : World) (v : Value) (L : List SV) : Prop := w.ownsRow base 93 3 v L.length (L.map stepCs).flatten ∧ ∀ x ∈ L, LOwn base w x.2 x.1.cla
theorem StOwn.below {base : Nat} {w w' : World} {v : Value} {L : List SV} (h : StOwn base w v L) (hb : Below w.heap.size w w') : StOwn base w' v L := ⟨own_below h.1 hb, fun x hx => own_below (h.2 x hx) hb⟩
theorem StOwn.mono {base base' : Nat} {w : World} {v : Value} {L : List SV} (h : StOwn base w v L) (hb : base' ≤ base) : StOwn base' w v L := ⟨World.ownsRow.mono h.1 hb, fun x hx => own_lower hb (h.2 x hx)⟩
theorem step_laid (w : World) (x : SV) : ∀ (j : Nat) (u : Value), (stepCs x)[j]? = some u → (w.alloc (.cells #[.int .i64 x.1.kind, .int .i64 x.1.con, x.2] 93)).cell? ((⟨w.heap.size, 0, none⟩ : Addr).add j) = some u := by
  intro j u hj
  match j, hj with
  | 0, hj => simp [stepCs] at hj; subst hj; simp [Addr.add]
  | 1, hj => simp [stepCs] at hj; subst hj; simp [Addr.add]
  | 2, hj => simp [stepCs] at hj; subst hj; simp [Addr.add]
theorem StOwn.push {base n : Nat} {w w' : World} {v v' : Value} {L : List SV} {x : SV} (h : StOwn base w v L) (hx : LOwn base w x.2 x.1.cla) (hg : w.grownBy w' v.ownBlock) (hn : n = L.length + 1) (ho : w'.ownsRow base 93 3 v' n ((L.map stepCs).flatten ++ stepCs x)) : StOwn base w' v' (L ++ [x]) := by
  refine ⟨?_, fun y hy => ?_⟩
  · rw [List.length_append, List.length_singleton, ← hn, List.map_append, List.flatten_append]
    simpa using ho
  · rcases List.mem_append.1 hy with h3 | h3
    · exact own_grown (h.2 y h3) hg h.1 (by decide)
    · rw [List.mem_singleton.1 h3]; exact own_grown hx hg h.1 (by decide)
theorem least_map {α β : Type} (f : α → β) (e : List β → Bool) : ∀ (k : Nat) (l : List α), (leastL (fun c => e (c.map f)) k l).map f = leastL e k (l.map f)
  | 0, l => rfl
  | k + 1, l => by
    rw [least_step, least_step, least_map f e k, erase_map]
    congr 1
    split <;> rfl

set_option maxHeartbeats 6400000 in
set_option maxRecDepth 100000 in
theorem rsteps_any (vs : List MVar) (hva : VarsAll vs) (hn1 : 1 ≤ vs.length) (pt : List (List Nat)) (cs : List Nat) (hcs : cs.length ≤ 100000) (cl : Cla) (hcl : cl.length ≤ 900) (r : Nat) (sv pv cv u : Value) (w : World) (hR : RulesAt w r sv pv cv vs pt cs) (hu : LArg w u cl) :
    Calls Tryz.prog 195 #[.pointer (some ⟨r, 0, none⟩), u] w fun e w' => ∃ v L, e = .returned v ∧ L.map (·.1) = stepsA vs cs pt cl ∧ StOwn w.heap.size w' v L ∧ L.length ≤ 1500 ∧ Below w.heap.size w w' := by
  obtain ⟨i0, hi0, hz0, hz1, hz2⟩ := info_parts Tryz.infoStepF
  have HR : Hid (∀ Y, Below w.heap.size w Y → RulesAt Y r sv pv cv vs pt cs) := fun Y hY => RulesAt.below hY hR
  have HU : Hid (∀ Y, Below w.heap.size w Y → LArg Y u cl) := fun Y hY => LArg.below hY hu
  have HVO : Hid (VarsAll vs) := hva
  have H1 : Hid (1 ≤ vs.length) := hn1
  have HCS : Hid (cs.length ≤ 100000) := hcs
  have HCL : Hid (cl.length ≤ 900) := hcl
  obtain ⟨h, hh⟩ : ∃ h, heldP vs cl = h := ⟨_, rfl⟩
  have HH : Hid (heldP vs cl = h) := hh
  have HH36 : Hid (h < 2 ^ 36) := by rw [← hh]; exact of_lt vs hva.1 _
  obtain ⟨ST, hST⟩ : ∃ ST, stepsA vs cs pt cl = ST := ⟨_, rfl⟩
  have HST : Hid (ST = (leastL (enoughP vs cs h) (reasonsP vs cs pt h).length (reasonsP vs cs pt h)).map (·.1) ++ [⟨2, 0, cl⟩]) := by show _ = _; rw [← hST, ← hh]; rfl
  rw [hST]
  have r0 := hR.c0
  have rl := hR.lt
  obtain ⟨a1, c1, rfl, _, _⟩ := hR.hv
  obtain ⟨a2, c2, rfl, _, _⟩ := hu
  clear hR hva hn1 hcs hcl hh hST
  go_enter Tryz.func195, Tryz.ntmps195
  go_wp2_with fail
  refine (held_any vs HVO.out cl _ _ _ (HR.out _ (below_alloc _ _)).hv (HU.out _ (below_alloc _ _))).mono ?_
  rintro e w1 ⟨rfl, hb1⟩
  rw [HH.out]
  have HB1 : Hid (Below w.heap.size w w1) := (below_alloc _ _).trans (hb1.mono (by simp))
  have HP1 : Hid (w1.cell? ⟨w.heap.size, 0, none⟩ = some (.pointer (some ⟨r, 0, none⟩))) := (hb1.cell (by simp)).trans (World.cell?_alloc_at _ _ _ 0 (by simp))
  have HS1 : Hid (w.heap.size < w1.heap.size) := by have := hb1.size; simp at this; show _ < _; omega
  clear hb1 r0 rl
  have k1 : (w1.alloc (.cells #[.int .u64 (h : Int)] 183)).cell? ⟨w.heap.size, 0, none⟩ = some (.pointer (some ⟨r, 0, none⟩)) := ((below_alloc w1 _).cell (p := ⟨w.heap.size, 0, none⟩) HS1.out).trans HP1.out
  have k2 : (w1.alloc (.cells #[.int .u64 (h : Int)] 183)).cell? ⟨w1.heap.size, 0, none⟩ = some (.int .u64 (h : Int)) := World.cell?_alloc_at _ _ _ 0 (by simp)
  have HBV : Hid (Below w.heap.size w (w1.alloc (.cells #[.int .u64 (h : Int)] 183))) := HB1.out.alloc HB1.out.size _
  have HLV : Hid (w1.heap.size < (w1.alloc (.cells #[.int .u64 (h : Int)] 183)).heap.size) := by show _ < _; simp
  obtain ⟨G, hG⟩ : ∃ G, w1.heap.size = G := ⟨_, rfl⟩
  obtain ⟨V, hV⟩ : ∃ V, w1.alloc (.cells #[.int .u64 (h : Int)] 183) = V := ⟨_, rfl⟩
  go_upto_region 4 with (fail)
  rw [hV] at HBV HLV
  rw [hG] at HLV HS1
  rw [hG, hV] at k2
  rw [hV] at k1
  have HK : Hid (∀ Y, Below V.heap.size V Y → Y.cell? ⟨w.heap.size, 0, none⟩ = some (.pointer (some ⟨r, 0, none⟩)) ∧ Y.cell? ⟨G, 0, none⟩ = some (.int .u64 (h : Int)) ∧ w.heap.size < Y.heap.size ∧ G < Y.heap.size) := fun Y hY => by
    have h1 := HS1.out
    have h2 := HLV.out
    have h3 := hY.size
    exact ⟨(hY.cell (p := ⟨w.heap.size, 0, none⟩) (by show w.heap.size < V.heap.size; omega)).trans k1, (hY.cell (p := ⟨G, 0, none⟩) h2).trans k2, by omega, by omega⟩
  clear hG hV HP1
  go_wp2_with fail
  refine (reasons_any vs HVO.out H1.out pt cs h HH36.out r _ pv cv _ (HR.out _ HBV.out)).mono ?_
  rintro e w2 ⟨v2, L, rfl, hmp, hro, hcl2, hL14, hb2⟩
  have HRO : Hid (ROwn w.heap.size w2 v2 L) := rown_lower HBV.out.size hro
  have HCL2 : Hid (∀ x ∈ L, LOwn w.heap.size w2 x.2 x.1.1.cla) := fun x hx => own_lower HBV.out.size (hcl2 x hx)
  have HMP : Hid (L.map (·.1) = reasonsP vs cs pt h) := hmp
  have HB2 : Hid (Below V.heap.size V w2) := hb2
  have HBW2 : Hid (Below w.heap.size w w2) := HBV.out.trans (hb2.mono HBV.out.size)
  have HSL : Hid (∀ x ∈ L, IsSl x) := fun x hx => by
    obtain ⟨a, c, he⟩ := own_form (show w2.ownsRow _ _ _ _ _ _ from hcl2 x hx)
    exact ⟨a, _, c, he⟩
  have HX36 : Hid (∀ x ∈ L, x.1.2 < 2 ^ 36) := fun x hx => by
    have h1 : x.1 ∈ reasonsP vs cs pt h := by rw [← hmp]; exact List.mem_map.2 ⟨x, hx, rfl⟩
    obtain ⟨t, _, ht⟩ := List.mem_flatMap.1 h1
    unfold reasonsT at ht
    split at ht
    · rw [List.mem_singleton.1 ht]; exact of_lt vs HVO.out.1 _
    · obtain ⟨l, _, hl⟩ := List.mem_map.1 ht
      rw [← hl]; exact of_lt vs HVO.out.1 _
  obtain ⟨ao, co, rfl⟩ := own_form (show w2.ownsRow _ _ _ _ _ _ from hro)
  clear hmp hro hcl2 hb2 k1 k2
  go_wp2_with fail
  refine (least_reasons 253 #[.pointer (some ⟨w.heap.size, 0, none⟩), .pointer (some ⟨G, 0, none⟩)] (fun c => enoughP vs cs h (c.map (·.1))) L HSL.out (by omega) _ _ HRO.out.arg ⟨enters_enough, fun c v Y hc hcm hY hv => ?_⟩).mono ?_
  · have hYV := HB2.out.trans (hY.mono HB2.out.size)
    have hYW := HBV.out.trans (hYV.mono HBV.out.size)
    obtain ⟨q1, q2, q3, q4⟩ := HK.out Y hYV
    exact senough_any vs HVO.out H1.out pt cs HCS.out h HH36.out r _ pv cv c (by omega) (fun x hx => HX36.out x (hcm x hx)) (fun x hx => HSL.out x (hcm x hx)) v _ _ Y (HR.out Y hYW) hv q1 q2 q3 q4
  rintro e w3 ⟨v3, rfl, hro3, hb3⟩
  obtain ⟨R, hRe⟩ : ∃ R, leastL (fun c => enoughP vs cs h (c.map (·.1))) L.length L = R := ⟨_, rfl⟩
  have HRM : Hid (R.map (·.1) = leastL (enoughP vs cs h) (reasonsP vs cs pt h).length (reasonsP vs cs pt h)) := by show _ = _; rw [← hRe, least_map (fun x : RV => x.1), ← HMP.out, List.length_map]
  have HRS : Hid (∀ x ∈ R, x ∈ L) := fun x hx => least_mem _ x _ _ (by rw [hRe]; exact hx)
  have hRL : R.length ≤ 1400 := by rw [← hRe]; exact Nat.le_trans (least_len _ _ _) hL14
  rw [hRe] at hro3
  have HRO3 : Hid (ROwn w.heap.size w3 v3 R) := rown_lower HBW2.out.size hro3
  have HB3 : Hid (Below w.heap.size w w3) := HBW2.out.trans (hb3.mono HBW2.out.size)
  have HCL3 : Hid (∀ x ∈ R, LOwn w.heap.size w3 x.2 x.1.1.cla) := fun x hx => own_below (HCL2.out x (HRS.out x hx)) hb3
  obtain ⟨a3, c3, rfl⟩ := own_form (show w3.ownsRow _ _ _ _ _ _ from hro3)
  clear hro3 hb3 hRe
  go_wp2_with fail
  go_loopw [7, 23] (fun o i wr => ∃ k : Nat, k ≤ R.length ∧ i = .int .i64 k ∧ Hid (∃ D : List SV, D.map (·.1) = (R.take k).map (·.1.1) ∧ StOwn w.heap.size wr o D ∧ ROwn w.heap.size wr (.slice a3 R.length c3) R ∧ (∀ x ∈ R, LOwn w.heap.size wr x.2 x.1.1.cla) ∧ Below w.heap.size w wr)) (fun _ i _ => R.length - (intOf i).toNat)
  case atStart => exact ⟨0, by omega, rfl, [], rfl, ⟨World.ownsRow_nil _ _ _ _, fun x hx => by cases hx⟩, HRO3.out, HCL3.out, HB3.out⟩
  case round =>
    obtain ⟨k, hk, rfl, hrest⟩ := hrel
    obtain ⟨D, hD, hso, hrr, hcr, hbw⟩ := hrest.out
    have HD : Hid (D.map (·.1) = (R.take k).map (·.1.1)) := hD
    have HSO : Hid (StOwn w.heap.size wr u7 D) := hso
    have HRR : Hid (ROwn w.heap.size wr (.slice a3 R.length c3) R) := hrr
    have HCR : Hid (∀ x ∈ R, LOwn w.heap.size wr x.2 x.1.1.cla) := hcr
    have HBW : Hid (Below w.heap.size w wr) := hbw
    have hDk : D.length = k := by
      have h1 := congrArg List.length hD
      rw [List.length_map, List.length_map, List.length_take] at h1
      omega
    obtain ⟨ad, cd, hu7⟩ := own_form hso.1
    rw [hDk] at hu7
    subst hu7
    clear hD hso hrr hcr hbw hrest
    by_cases hlt : k < R.length
    · obtain ⟨t, ht⟩ : ∃ t, R[k]? = some t := ⟨R[k], by simp [hlt]⟩
      obtain ⟨a4, n4, c4, b4, o4, he4, hn4, hc41, hc42, ha4, hb4, q0, q1, q2, q3⟩ := reason_cells HRR.out.arg k t ht
      injection he4 with he4 he5 he6
      rw [ha4] at he4
      subst he4
      have htm : t ∈ R := List.mem_of_getElem? ht
      have HTC : Hid (LOwn w.heap.size wr t.2 t.1.1.cla) := HCR.out t htm
      obtain ⟨sa, sc, hse⟩ := own_form (show wr.ownsRow _ _ _ _ _ _ from HTC.out)
      rw [hse] at q2
      have HSE : Hid (t.2 = .slice sa t.1.1.cla.length sc) := hse
      have HNX : Hid ((D ++ [(t.1.1, t.2)]).map (·.1) = (R.take (k + 1)).map (·.1.1)) := by
        show _ = _
        rw [List.map_append, HD.out, List.take_add_one, ht, List.map_append]; rfl
      have hcc : R.length ≤ c3 := by omega
      unfold maxLen at hc42
      have hcm : c3 ≤ 2 ^ 63 - 1 := by omega
      clear he5 he6 hc41 hc42 hn4 hse ha4 ht
      have hbs := HBW.out.size
      obtain ⟨kd, hkd⟩ : ∃ kd, t.1.1.kind = kd := ⟨_, rfl⟩
      obtain ⟨cn, hcn⟩ : ∃ cn, t.1.1.con = cn := ⟨_, rfl⟩
      obtain ⟨hz, hhz⟩ : ∃ hz : Nat, t.1.2 = hz := ⟨_, rfl⟩
      obtain ⟨nl, hnl⟩ : ∃ nl, t.1.1.cla.length = nl := ⟨_, rfl⟩
      rw [hkd] at q0
      rw [hcn] at q1
      rw [hhz] at q3
      rw [hnl] at q2 HSE
      have HSC : Hid (stepCs (t.1.1, t.2) = [.int .i64 kd, .int .i64 cn, .slice sa nl sc]) := by show _ = _; unfold stepCs; rw [HSE.out, hkd, hcn]
      have HSL2 : Hid (∀ V : World, ∀ (j : Nat) (u : Value), ([.int .i64 kd, .int .i64 cn, .slice sa nl sc] : List Value)[j]? = some u → (V.alloc (.cells #[.int .i64 kd, .int .i64 cn, .slice sa nl sc] 93)).cell? ((⟨V.heap.size, 0, none⟩ : Addr).add j) = some u) := fun V => by
        have h1 := step_laid V (⟨kd, cn, []⟩, .slice sa nl sc)
        exact h1
      clear hkd hcn hhz hnl
      have HBX : Hid (Below wr.heap.size wr (wr.alloc (.cells #[.int .i64 kd, .int .i64 cn, .slice sa nl sc, .int .u64 (hz : Int)] 287))) := below_alloc _ _
      go_upto_region 7 with (fail)
      obtain ⟨V, hV⟩ : ∃ V, wr.alloc (.cells #[.int .i64 kd, .int .i64 cn, .slice sa nl sc, .int .u64 (hz : Int)] 287) = V := ⟨_, rfl⟩
      have k0 : (wr.alloc (.cells #[.int .i64 kd, .int .i64 cn, .slice sa nl sc, .int .u64 (hz : Int)] 287)).cell? ⟨wr.heap.size, 0, none⟩ = some (.int .i64 kd) := World.cell?_alloc_at _ _ _ 0 (by simp)
      have k1 : (wr.alloc (.cells #[.int .i64 kd, .int .i64 cn, .slice sa nl sc, .int .u64 (hz : Int)] 287)).cell? ⟨wr.heap.size, 1, none⟩ = some (.int .i64 cn) := World.cell?_alloc_at _ _ _ 1 (by simp)
      have k2 : (wr.alloc (.cells #[.int .i64 kd, .int .i64 cn, .slice sa nl sc, .int .u64 (hz : Int)] 287)).cell? ⟨wr.heap.size, 2, none⟩ = some (.slice sa nl sc) := World.cell?_alloc_at _ _ _ 2 (by simp)
      rw [hV] at HBX k0 k1 k2 ⊢
      clear hV q0 q1 q2 q3
      have hvs := HBX.out.size
      have HBV2 : Hid (Below w.heap.size w V) := HBW.out.trans (HBX.out.mono HBW.out.size)
      have HSV : Hid (StOwn w.heap.size (V.alloc (.cells #[.int .i64 kd, .int .i64 cn, .slice sa nl sc] 93)) (.slice ad k cd) D) := (HSO.out.below HBX.out).below (below_alloc _ _)
      have HOV : Hid ((V.alloc (.cells #[.int .i64 kd, .int .i64 cn, .slice sa nl sc] 93)).ownsRow w.heap.size 93 3 (.slice ad k cd) k (D.map stepCs).flatten) := by have := HSV.out.1; rw [hDk] at this; exact this
      go_wp2_with (at_builtin; refine wpList_append_own _ rfl _ _ 27 rfl w.heap.size 93 i0 (.agg #[.int .i64 0, .int .i64 0, .slice none 0 0]) 3 40 Tryz.underStepsF hi0 hz0 hz1 hz2 rfl (by decide) _ _ _ rfl HOV.out ⟨V.heap.size, 0, none⟩ 1 1 [.int .i64 kd, .int .i64 cn, .slice sa nl sc] rfl rfl (HSL2.out V) (by intro u hu; simp at hu; rcases hu with rfl | rfl | rfl <;> rfl) ?c1 ?c2 ?c3 ?_)
      case c1 => unfold maxLen; omega
      case c2 => omega
      case c3 => simp; omega
      intro v6 w6 hown6 hg6 _
      have HBA : Hid (Below wr.heap.size wr (V.alloc (.cells #[.int .i64 kd, .int .i64 cn, .slice sa nl sc] 93))) := HBX.out.alloc hvs _
      have HS6 : Hid (StOwn w.heap.size w6 v6 (D ++ [(t.1.1, t.2)])) := StOwn.push HSV.out (own_below HTC.out HBA.out) hg6 (by rw [hDk]) (by rw [HSC.out]; exact hown6)
      have HR6 : Hid (ROwn w.heap.size w6 (.slice (some ⟨b4, o4, none⟩) R.length c3) R) := own_grown (own_below HRR.out HBA.out) hg6 HOV.out (by decide)
      have HC6 : Hid (∀ x ∈ R, LOwn w.heap.size w6 x.2 x.1.1.cla) := fun x hx => own_grown (own_below (HCR.out x hx) HBA.out) hg6 HOV.out (by decide)
      have HB6 : Hid (Below w.heap.size w w6) := (HBV2.out.alloc HBV2.out.size _).grown hg6 (by have := HBV2.out.size; simp; omega) (fun g hg => (HOV.out.lt g hg).1)
      obtain ⟨a9, c9, rfl⟩ := own_form hown6
      clear hown6 hg6 k0 k1 k2
      go_wp2
      go_roundw
      case rel => exact ⟨k + 1, by omega, by go_num, D ++ [(t.1.1, t.2)], HNX.out, HS6.out, HR6.out, HC6.out, HB6.out⟩
      case measure => simp [intOf]; omega
    · have HFD : Hid (D.map (·.1) = R.map (·.1.1)) := by have h1 := HD.out; rw [List.take_of_length_le (by omega)] at h1; exact h1
      have HDK : Hid (D.length = k) := hDk
      clear hDk
      go_wp2_with fail
      refine (clone_cla cl HCL.out _ _ (HU.out _ HBW.out)).mono ?_
      rintro e w5 ⟨x, rfl, hx, hb5⟩
      have HX : Hid (LOwn w.heap.size w5 x cl) := own_lower HBW.out.size hx
      have HB5 : Hid (Below w.heap.size w w5) := HBW.out.trans (hb5.mono HBW.out.size)
      have HS5 : Hid (StOwn w.heap.size w5 (.slice ad k cd) D) := HSO.out.below hb5
      obtain ⟨ax, cx, rfl⟩ := own_form (show w5.ownsRow _ _ _ _ _ _ from hx)
      clear hx hb5
      have hs5 := HB5.out.size
      have HSV : Hid (StOwn w.heap.size (w5.alloc (.cells #[.int .i64 2, .int .i64 0, .slice ax cl.length cx] 93)) (.slice ad k cd) D) := HS5.out.below (below_alloc _ _)
      have HOV : Hid ((w5.alloc (.cells #[.int .i64 2, .int .i64 0, .slice ax cl.length cx] 93)).ownsRow w.heap.size 93 3 (.slice ad k cd) k (D.map stepCs).flatten) := by have := HSV.out.1; rw [HDK.out] at this; exact this
      go_wp2_with (at_builtin; refine wpList_append_own _ rfl _ _ 27 rfl w.heap.size 93 i0 (.agg #[.int .i64 0, .int .i64 0, .slice none 0 0]) 3 40 Tryz.underStepsF hi0 hz0 hz1 hz2 rfl (by decide) _ _ _ rfl HOV.out ⟨w5.heap.size, 0, none⟩ 1 1 [.int .i64 2, .int .i64 0, .slice ax cl.length cx] rfl rfl (step_laid w5 (⟨2, 0, cl⟩, .slice ax cl.length cx)) (by intro u hu; simp at hu; rcases hu with rfl | rfl | rfl <;> rfl) ?c1 ?c2 ?c3 ?_)
      case c1 => unfold maxLen; omega
      case c2 => omega
      case c3 => simp; omega
      intro v6 w6 hown6 hg6 _
      have HS6 : Hid (StOwn w.heap.size w6 v6 (D ++ [((⟨2, 0, cl⟩ : MStep), Value.slice ax cl.length cx)])) := StOwn.push HSV.out (own_below HX.out (below_alloc _ _)) hg6 (by rw [HDK.out]) hown6
      have HB6 : Hid (Below w.heap.size w w6) := (HB5.out.alloc hs5 _).grown hg6 (by simp; omega) (fun g hg => (HOV.out.lt g hg).1)
      have HM6 : Hid ((D ++ [((⟨2, 0, cl⟩ : MStep), Value.slice ax cl.length cx)]).map (·.1) = ST) := by
        show _ = _
        rw [HST.out, ← HRM.out, List.map_append, HFD.out, List.map_map]; rfl
      have HL6 : Hid ((D ++ [((⟨2, 0, cl⟩ : MStep), Value.slice ax cl.length cx)]).length ≤ 1500) := by show _ ≤ _; rw [List.length_append, HDK.out]; simp; omega
      obtain ⟨a9, c9, rfl⟩ := own_form hown6
      clear hown6 hg6
      go_wp2
      go_ret
      exact ⟨_, _, rfl, HM6.out, HS6.out, HL6.out, HB6.out⟩
end Go.Proofs.YtdjbejlbmaiocagGreatDoor
/-
  MEMORY: a store whose rows grow in whatever order. WALK: package fence: Store.
-/
namespace Go.Proofs.YtdjbejlbmaiocagGreatDoor
open Go.RowKit

theorem wp_append_own_at {P : Program} (w : World) {o : Oper} {a : Act} {K : Act → World → Prop} {Q : Exit → Act → World → Prop} (s x : Operand) (t : TypeId)
    (ho : o.op = .call { callee := .builtin .append, args := #[s, x], argTypes := #[t, t] })
    (base : Nat) (e : TypeId) (i : TypeInfo) (z : Value) (size bytes : Nat) (ht : P.underlying t = some (.slice e)) (hi : P.info? e = some i) (hz : i.zero = some z)
    (hsize : i.size = size) (hby : i.bytes = bytes) (hzs : z.cells.size = size) (hsz : 0 < size)
    (v : Value) (n : Nat) (xs : List Value) (hs : a.eval s = v) (hown : w.ownsRow base e size v n xs)
    (ad : Addr) (m c : Nat) (news : List Value) (hx : a.eval x = .slice (some ad) m c) (hl : news.length = m * size) (hnews : ∀ j u, news[j]? = some u → w.cell? (ad.add j) = some u) (h1 : ∀ u ∈ news, u.oneCell' = true)
    (h63 : n + m ≤ maxLen) (hbytes : (n + m) * bytes ≤ 140737488355328) (hbase : base ≤ w.heap.size)
    (h : ∀ v' w', w'.ownsRow base e size v' (n + m) (xs ++ news) → w.grownBy w' v.ownBlock → (v'.ownBlock = v.ownBlock ∨ v'.ownBlock = some w.heap.size) → K (a.put o.dst v') w') : o.wp P a w K Q := by
  obtain ⟨v', w', hr, h2, h3, _, h4⟩ := run_append_own_at (P := P) (w := w) base t o.type e i z size bytes ht hi hz hsize hby hzs hsz v n xs hown ad m c news hl hnews h1 h63 hbytes hbase
  unfold Oper.wp execOp
  simp only [ho, resolve, invoke, builtin, Sem.run_bind, Sem.run_pure, Result.andThen_ok, List.map_toArray, List.map_cons, List.map_nil, hs, hx, hr]
  exact h v' w' h2 h3 h4

def GRows (w : World) (B n : Nat) (cells : List Value) (M : Sto) : Prop :=
  w.ownsRow B 26 1 (.slice (some ⟨B, 0, none⟩) n n) n cells ∧ M.length = n ∧
  (∀ (i : Nat) (r : List Int), M[i]? = some r → ∃ x, cells[i]? = some x ∧ w.ownsRow (B + 1) 3 1 x r.length (r.map (Value.int .i64))) ∧
  (∀ (i j : Nat) (x y : Value) (g : Nat), i ≠ j → cells[i]? = some x → cells[j]? = some y → x.ownBlock = some g → y.ownBlock ≠ some g)
theorem GRows.kept {w w' : World} {B n : Nat} {cells : List Value} {M : Sto} (h : GRows w B n cells M) (hb : Below w.heap.size w w') : GRows w' B n cells M := by
  obtain ⟨h1, h0, h2, h3⟩ := h
  refine ⟨own_below h1 hb, h0, fun i r hr => ?_, h3⟩
  obtain ⟨y, hy, hoy⟩ := h2 i r hr
  exact ⟨y, hy, own_below hoy hb⟩
theorem GRows.push {w w3 : World} {B n : Nat} {cells : List Value} {M : Sto} {k : Nat} {r : List Int} {x v3 : Value} {z : Int} (h : GRows w B n cells M) (hM : M[k]? = some r) (hx : cells[k]? = some x)
    (ho : w3.ownsRow (B + 1) 3 1 v3 (r ++ [z]).length ((r ++ [z]).map (Value.int .i64))) (hg : w.grownBy w3 x.ownBlock) (hat : v3.ownBlock = x.ownBlock ∨ v3.ownBlock = some w.heap.size) :
    GRows (w3.setCell ⟨B, k, none⟩ v3) B n (cells.set k v3) (M.set k (r ++ [z])) := by
  obtain ⟨h1, h0, h2, h4⟩ := h
  obtain ⟨y, hy, hoy⟩ := h2 k r hM
  rw [hx] at hy; cases hy
  have hxK : ∀ g, x.ownBlock = some g → B + 1 ≤ g := fun g hg => (hoy.lt g hg).1
  have hB : B < w.heap.size := (h1.lt B rfl).2
  have hne : some B ≠ x.ownBlock := fun h => by have := hxK B h.symm; omega
  have h13 : w3.ownsRow B 26 1 (.slice (some ⟨B, 0, none⟩) n n) n cells := h1.kept hg (Or.inr hne)
  have hlen : cells.length = n := by have := h1.1; omega
  have hkn : k < n := by rw [← h0]; exact (List.getElem?_eq_some_iff.1 hM).1
  have hold : ∀ (j : Nat) (y : Value), j ≠ k → cells[j]? = some y → ∀ g, y.ownBlock = some g → g < w.heap.size := fun j y hj hy g hg => by
    have hjn : j < n := by rw [← hlen]; exact (List.getElem?_eq_some_iff.1 hy).1
    obtain ⟨y', hy', ho'⟩ := h2 j M[j] (by rw [List.getElem?_eq_getElem (by omega)])
    rw [hy] at hy'; cases hy'
    exact (ho'.lt g hg).2
  refine ⟨(h13.stored k v3).1, by simpa using h0, fun i q hq => ?_, fun i j y u g hij hyi hyj hg1 => ?_⟩
  · by_cases hik : i = k
    · subst hik
      rw [List.getElem?_set_self (by omega)] at hq
      cases hq
      refine ⟨v3, by rw [List.getElem?_set_self (by omega)], own_at ho fun g hg2 => Below.heap_setCell _ _ _ _ ?_⟩
      have := (ho.lt g hg2).1
      simp only; omega
    · rw [List.getElem?_set_ne (by omega)] at hq
      obtain ⟨y, hy, hoy2⟩ := h2 i q hq
      refine ⟨y, by rw [List.getElem?_set_ne (by omega)]; exact hy, ?_⟩
      have h23 : w3.ownsRow (B + 1) 3 1 y q.length (q.map (Value.int .i64)) := by
        refine hoy2.kept hg ?_
        cases hyb : y.ownBlock with
        | none => exact Or.inl rfl
        | some g => exact Or.inr fun he => h4 i k y x g hik hy hx hyb he.symm
      refine own_at h23 fun g hg2 => Below.heap_setCell _ _ _ _ ?_
      have := (hoy2.lt g hg2).1
      simp only; omega
  · by_cases hik : i = k
    · subst hik
      rw [List.getElem?_set_self (by omega)] at hyi
      cases hyi
      rw [List.getElem?_set_ne (by omega)] at hyj
      rcases hat with hat | hat
      · rw [hat] at hg1
        exact h4 _ j x u g hij hx hyj hg1
      · rw [hat] at hg1
        intro hu
        have := hold j u (Ne.symm hij) hyj g hu
        have := Option.some.inj hg1
        omega
    · rw [List.getElem?_set_ne (by omega)] at hyi
      by_cases hjk : j = k
      · subst hjk
        rw [List.getElem?_set_self (by omega)] at hyj
        cases hyj
        rcases hat with hat | hat
        · rw [hat]
          exact h4 i _ y x g hij hyi hx hg1
        · rw [hat]
          intro hu
          have := hold i y hij hyi g hg1
          have := Option.some.inj hu
          omega
      · rw [List.getElem?_set_ne (by omega)] at hyj
        exact h4 i j y u g hij hyi hyj hg1
theorem GRows.rarg {w : World} {B n : Nat} {cells : List Value} {M : Sto} (h : GRows w B n cells M) : RArg w (.slice (some ⟨B, 0, none⟩) n n) M := by
  obtain ⟨h1, h0, h2, _⟩ := h
  have hB : B < w.heap.size := (h1.lt B rfl).2
  have hmx : n ≤ maxLen := by
    rcases h1.2 with ⟨h', _⟩ | ⟨g, cap, cur, h', _, _, hc1, hc2, _⟩
    · cases h'
    · exact Nat.le_trans hc1 hc2
  refine ⟨_, n, by rw [h0], ⟨by omega, hmx⟩, fun i r hr => ?_⟩
  have hi : i < n := by rw [← h0]; exact (List.getElem?_eq_some_iff.1 hr).1
  obtain ⟨x, hx, ho⟩ := h2 i r hr
  exact ⟨B, 0, x, rfl, hB, by rw [Nat.zero_add, h1.cellAt i (by omega)]; exact hx, own_ilist ho⟩
theorem lits_bounds (vs : List MVar) (hva : VarsAll vs) (p : Nat) (hp : ∀ i, p.testBit i = true → (wholeP vs).testBit i = true) : ∀ l ∈ litsP vs p, 0 ≤ l.var ∧ l.var < (vs.length : Int) ∧ -100 ≤ l.n ∧ l.n ≤ 100 := by
  intro l hl
  unfold litsP at hl
  obtain ⟨i, hi, rfl⟩ := List.mem_map.1 hl
  unfold bitsL at hi
  have hb := hp i (List.mem_filter.1 hi).2
  unfold wholeP ofP at hb
  rw [testBit_of vs hva.1] at hb
  simp only [Bool.and_eq_true, decide_eq_true_eq] at hb
  have h1 := hva.2 (i / 6) hb.1
  have h2 := hva.1.2 (i / 6)
  simp only
  omega
theorem storeF_take (ls : Cla) (k : Nat) (l : MLit) (h : ls[k]? = some l) (s : Sto) : storeF (ls.take (k + 1)) s = (storeF (ls.take k) s).set l.var.toNat ((storeF (ls.take k) s).getD l.var.toNat [] ++ [l.n]) := by
  rw [List.take_add_one, h]
  generalize ls.take k = q
  induction q generalizing s with
  | nil => simp [storeF]
  | cons x r ih => simp only [List.cons_append]; unfold storeF; exact ih _

theorem storeF_small : ∀ (c : Cla) (s : Sto) (v : Nat), ((storeF c s).getD v []).length ≤ (s.getD v []).length + c.length
  | [], s, v => by simp [storeF]
  | l :: r, s, v => by
    unfold storeF
    have := storeF_small r (s.set l.var.toNat (s.getD l.var.toNat [] ++ [l.n])) v
    have h2 : ((s.set l.var.toNat (s.getD l.var.toNat [] ++ [l.n])).getD v []).length ≤ (s.getD v []).length + 1 := by
      by_cases he : l.var.toNat = v
      · subst he
        by_cases hl : l.var.toNat < s.length
        · simp [List.getD_eq_getElem?_getD, hl]
        · simp [List.getD_eq_getElem?_getD, Nat.le_of_not_lt hl]
      · simp [List.getD_eq_getElem?_getD, he]
    rw [List.length_cons]
    omega
theorem lown_cell {base : Nat} {w : World} {a : Option Addr} {c : Nat} {l : Cla} (h : LOwn base w (.slice a l.length c) l) (i : Nat) (t : MLit) (hi : l[i]? = some t) : ∃ b off, a = some ⟨b, off, none⟩ ∧ b < w.heap.size ∧
    w.cell? ⟨b, off + i * 3, none⟩ = some (.int .i64 t.var) ∧ w.cell? ⟨b, off + i * 3 + 1, none⟩ = some (.int .i64 t.op) ∧ w.cell? ⟨b, off + i * 3 + 2, none⟩ = some (.int .i64 t.n) := by
  obtain ⟨a', c', he, _, h2⟩ := h.arg
  cases he
  exact h2 i t hi
set_option maxHeartbeats 6400000 in
set_option maxRecDepth 100000 in
theorem fstore_any (vs : List MVar) (hva : VarsAll vs) (p : Nat) (hp : ∀ i, p.testBit i = true → (wholeP vs).testBit i = true) (sv : Value) (w : World) (hv : VArg w sv vs) (hT : TabT w) :
    Calls Tryz.prog 134 #[sv, .int .u64 p] w fun e w' => ∃ B cells, e = .returned (.slice (some ⟨B, 0, none⟩) vs.length vs.length) ∧ GRows w' B vs.length cells (storeP vs p) ∧ w.heap.size ≤ B ∧ Below w.heap.size w w' := by
  have h6 := hva.1.1
  have HLT : Hid (∀ Y, Below w.heap.size w Y → Calls Tryz.prog 197 #[sv, .int .u64 p] Y fun e w' => ∃ x, e = .returned x ∧ LOwn Y.heap.size w' x (litsP vs p) ∧ Below Y.heap.size Y w') := fun Y hY => flits_any vs hva p hp sv Y (VArg.below hY hv) (hT.below hY)
  have HBD : Hid (∀ l ∈ litsP vs p, 0 ≤ l.var ∧ l.var < (vs.length : Int) ∧ -100 ≤ l.n ∧ l.n ≤ 100) := lits_bounds vs hva p hp
  have hl36 := lits_len vs p
  unfold storeP
  obtain ⟨ls, hls⟩ : ∃ ls, litsP vs p = ls := ⟨_, rfl⟩
  rw [hls] at HLT HBD hl36 ⊢
  obtain ⟨a, c, rfl, _, _⟩ := hv
  obtain ⟨n, hn⟩ : ∃ n, vs.length = n := ⟨_, rfl⟩
  rw [hn] at HLT HBD h6 ⊢
  obtain ⟨wm, hrun, hrows, hbm⟩ := make_store n h6 w
  have HROWS : Hid (GRows wm w.heap.size n (List.replicate n (.slice none 0 0)) (List.replicate n [])) := by
    obtain ⟨k1, k2, k3⟩ := hrows (List.replicate n [])
    refine ⟨k1, by simp, fun i r hr => ?_, fun i j x y g _ hx _ hg => ?_⟩
    · have hi : i < n := by have := (List.getElem?_eq_some_iff.1 hr).1; simpa using this
      have : r = [] := by rw [List.getElem?_replicate, if_pos hi] at hr; exact (Option.some.inj hr).symm
      subst this
      exact ⟨_, k3 i (Nat.zero_le _) hi, World.ownsRow_nil _ _ _ _⟩
    · rw [List.getElem?_replicate] at hx
      split at hx
      · cases hx; cases hg
      · cases hx
  have HBM : Hid (Below w.heap.size w wm) := hbm
  obtain ⟨B, hB⟩ : ∃ B, B = w.heap.size := ⟨_, rfl⟩
  rw [← hB] at hrun HROWS
  have hBw : w.heap.size ≤ B := by omega
  obtain ⟨i0, hi, hz0, hz1, hz2⟩ := info_parts Tryz.infoInt
  clear hrows hbm hB hls hva hp hT hn
  go_enter Tryz.func134, Tryz.ntmps134
  go_wp2_with fail
  clear hrun
  refine (HLT.out _ HBM.out).mono ?_
  rintro e w1 ⟨x, rfl, hown, hb1⟩
  obtain ⟨K, hK⟩ : ∃ K, wm.heap.size = K := ⟨_, rfl⟩
  rw [hK] at hown
  have HLO : Hid (LOwn K w1 x ls) := hown
  have HG1 : Hid (GRows w1 B n (List.replicate n (.slice none 0 0)) (List.replicate n [])) := HROWS.out.kept hb1
  have HB1 : Hid (Below w.heap.size w w1) := HBM.out.trans (hb1.mono HBM.out.size)
  obtain ⟨al, cl, rfl⟩ := own_form (show w1.ownsRow _ _ _ _ _ _ from hown)
  clear hK hown hb1 HROWS HBM HLT
  go_wp2_with fail
  go_loopw [15] (fun i wr => ∃ (k : Nat) (cells : List Value), k ≤ ls.length ∧ i = .int .i64 k ∧ GRows wr B n cells (storeF (ls.take k) (List.replicate n [])) ∧ LOwn K wr (.slice al (List.length ls) cl) ls ∧ Below w.heap.size w wr) (fun i _ => ls.length - (intOf i).toNat)
  case atStart => exact ⟨0, _, by omega, rfl, HG1.out, HLO.out, HB1.out⟩
  case round =>
    obtain ⟨k, cells, hk, rfl, hg, hlo, hbw⟩ := hrel
    have HG : Hid (GRows wr B n cells (storeF (ls.take k) (List.replicate n []))) := hg
    have HLO2 : Hid (LOwn K wr (.slice al (List.length ls) cl) ls) := hlo
    have HBW : Hid (Below w.heap.size w wr) := hbw
    clear hg hlo hbw
    by_cases hlt : k < ls.length
    · obtain ⟨l, hl⟩ : ∃ l, ls[k]? = some l := ⟨ls[k], by simp [hlt]⟩
      have HN : Hid (storeF (ls.take (k + 1)) (List.replicate n []) = (storeF (ls.take k) (List.replicate n [])).set l.var.toNat ((storeF (ls.take k) (List.replicate n [])).getD l.var.toNat [] ++ [l.n])) := storeF_take ls k l hl _
      obtain ⟨b0, b1, b2, b3⟩ := HBD.out l (List.mem_of_getElem? hl)
      obtain ⟨M, hM⟩ : ∃ M, storeF (ls.take k) (List.replicate n []) = M := ⟨_, rfl⟩
      rw [hM] at HN HG
      have hML : M.length = n := HG.out.2.1
      obtain ⟨lv, lo, ln⟩ := l
      simp only at b0 b1 b2 b3
      obtain ⟨v, rfl⟩ : ∃ v : Nat, lv = (v : Int) := ⟨lv.toNat, by omega⟩
      obtain ⟨r, hr⟩ : ∃ r, M[v]? = some r := ⟨M[v], by rw [List.getElem?_eq_getElem (by omega)]⟩
      have HR : Hid (M[v]? = some r) := hr
      have HN2 : Hid (storeF (ls.take (k + 1)) (List.replicate n []) = M.set v (r ++ [ln])) := by
        show _ = _
        rw [HN.out]
        simp only [Int.toNat_natCast]
        rw [List.getD_eq_getElem?_getD, hr]; rfl
      have hrl : r.length ≤ 36 := by
        have := storeF_small (ls.take k) (List.replicate n []) v
        rw [hM, List.getD_eq_getElem?_getD, hr] at this
        simp only [Option.getD_some, List.length_take] at this
        have h0 : ((List.replicate n ([] : List Int)).getD v []).length = 0 := by simp [List.getD_eq_getElem?_getD, show v < n by omega]
        omega
      obtain ⟨htop, _, hrws, _⟩ := HG.out
      obtain ⟨x, hx, hox⟩ := hrws v r hr
      have HX : Hid (cells[v]? = some x) := hx
      obtain ⟨ax, cx, rfl⟩ := own_form hox
      have hcx : wr.cell? ⟨B, v, none⟩ = some (.slice ax r.length cx) := by rw [htop.cellAt v (by omega)]; exact hx
      have hlB : B < wr.heap.size := (htop.lt B rfl).2
      obtain ⟨ad, off, hal, hlb, hc0, hc1, hc2⟩ := lown_cell HLO2.out k _ hl
      subst hal
      simp only at hc0 hc1 hc2
      have hbs := HBW.out.size
      clear hl hr hx hM htop hrws HN
      go_wp2_with fail
      obtain ⟨Y, hY⟩ : ∃ Y, wr.alloc (.cells #[.int .i64 (v : Int), .int .i64 lo, .int .i64 ln] 88) = Y := ⟨_, rfl⟩
      rw [hY]
      have hBY : Below wr.heap.size wr Y := by rw [← hY]; exact below_alloc _ _
      have HGY : Hid (GRows Y B n cells M) := HG.out.kept hBY
      have HLOY : Hid (LOwn K Y (.slice (some ⟨ad, off, none⟩) (List.length ls) cl) ls) := own_below (show wr.ownsRow _ _ _ _ _ _ from HLO2.out) hBY
      have HBY : Hid (Below w.heap.size w Y) := HBW.out.trans (hBY.mono hbs)
      have hoxY : Y.ownsRow (B + 1) 3 1 (.slice ax r.length cx) r.length (r.map (Value.int .i64)) := own_below hox hBY
      have d0 : Y.cell? ⟨wr.heap.size, 0, none⟩ = some (.int .i64 (v : Int)) := by rw [← hY]; simp
      have d2 : Y.cell? ⟨wr.heap.size, 2, none⟩ = some (.int .i64 ln) := by rw [← hY]; simp
      have dl : wr.heap.size < Y.heap.size := by rw [← hY]; simp
      have dB : Y.cell? ⟨B, v, none⟩ = some (.slice ax r.length cx) := (hBY.cell (p := ⟨B, v, none⟩) hlB).trans hcx
      have dlB : B < Y.heap.size := by omega
      have hvn : v < n := by omega
      have hvn2 : (v : Int) < (n : Int) := by omega
      obtain ⟨q, hq⟩ : ∃ q, wr.heap.size = q := ⟨_, rfl⟩
      have HXQ : Hid (some q ≠ (Value.slice ax r.length cx).ownBlock) := fun h => by have := (hox.lt q h.symm).2; omega
      rw [hq] at d0 d2 dl ⊢
      clear hc0 hc1 hc2 hcx hox hY hBY hq HG HLO2 hlB hlb
      go_region_law
        (first
          | (rw [if_pos (by rfl)]; refine wp_append_own_at _ _ _ 26 rfl (B + 1) 3 i0 _ 1 8 Tryz.underlying26 hi hz0 hz1 hz2 rfl (by decide) _ _ _ rfl (hoxY.drew.alloc _) ⟨Y.heap.size, 0, none⟩ 1 1 [.int .i64 ln] rfl rfl (one_laid Y.drew ln) (by intro u hu; simp at hu; subst hu; rfl) ?_ ?_ ?_ ?_; (unfold maxLen; omega); omega; (simp; omega); intro v4 w4 hown4 hg4 hat4; obtain ⟨av, cv, hv4⟩ := own_form hown4; subst hv4; have ht4 : w4.ownsRow B 26 1 (.slice (some ⟨B, 0, none⟩) n n) n cells := (HGY.out.1.drew.alloc _).kept hg4 (Or.inr (fun h => by have := (hoxY.lt B h.symm).1; omega)); have hcB : w4.cell? ⟨B, v, none⟩ = some (.slice ax r.length cx) := by rw [ht4.cellAt v (by omega)]; exact HX.out
             have hfB : w4.frozen? ⟨B, v, none⟩ = false := ht4.frozenAt v
             have hl4 : B < w4.heap.size := (ht4.lt B rfl).2
             have e0 : w4.cell? ⟨q, 0, none⟩ = some (.int .i64 (v : Int)) := hg4.cell ((((Below.refl _ _).drew.alloc (Nat.le_refl _) _ : Below Y.heap.size Y _).cell (p := ⟨q, 0, none⟩) dl).trans d0) HXQ.out
             have el : q < w4.heap.size := by have := hg4.size; simp at this; omega))
      all_goals
        have hown5 : w4.ownsRow (B + 1) 3 1 (.slice av (r.length + 1) cv) (r ++ [ln]).length ((r ++ [ln]).map (Value.int .i64)) := by
          rw [List.length_append, List.map_append]; exact hown4
        have HP : Hid (GRows (w4.setCell ⟨B, v, none⟩ (.slice av (r.length + 1) cv)) B n (cells.set v (.slice av (r.length + 1) cv)) (M.set v (r ++ [ln]))) :=
          (HGY.out.kept ((Below.refl _ _).drew.alloc (Nat.le_refl _) _)).push HR.out HX.out hown5 hg4 hat4
        have HB5 : Hid (Below w.heap.size w (w4.setCell ⟨B, v, none⟩ (.slice av (r.length + 1) cv))) :=
          ((HBY.out.drew.alloc HBY.out.size _).grown hg4 (by have := HBY.out.size; simp; omega) (fun g h => by have := (hoxY.lt g h).1; omega)).setCell (by simp only; omega) _
        have HL5 : Hid (LOwn K (w4.setCell ⟨B, v, none⟩ (.slice av (r.length + 1) cv)) (.slice (some ⟨ad, off, none⟩) (List.length ls) cl) ls) := by
          have h1 : (Y.drew.alloc (.cells #[.int .i64 ln] 3)).ownsRow K 88 3 (.slice (some ⟨ad, off, none⟩) (List.length ls) cl) ls.length (litsCs ls) := (show Y.drew.ownsRow _ _ _ _ _ _ from HLOY.out).alloc _
          have h2 := own_grown h1 hg4 (hoxY.drew.alloc _) (by decide)
          rcases ht4.2 with ⟨h', _⟩ | ⟨g, cap, cur, h', _, hh, _⟩
          · cases h'
          · cases h'
            exact own_set h2 hh (by decide) v _
        go_wp2
        go_roundw
        case rel => exact ⟨k + 1, _, by omega, by go_num, by rw [HN2.out]; exact HP.out, HL5.out, HB5.out⟩
        case measure => simp [intOf]; omega
    · have HN : Hid (ls.take k = ls) := List.take_of_length_le (by omega)
      go_wp2
      go_ret
      rw [HN.out] at HG
      exact ⟨_, _, rfl, HG.out, hBw, HBW.out⟩
end Go.Proofs.YtdjbejlbmaiocagGreatDoor
/-
  MEMORY: a searcher: its rules, its proof, which clauses stand in it, its path.
-/
namespace Go.Proofs.YtdjbejlbmaiocagGreatDoor
open Go.RowKit Go.Maps

theorem Tryz.partKey : Keyed Tryz.prog 183 := int_keyed Tryz.underlying183
theorem Tryz.underThere : Tryz.prog.underlying 118 = some (.map 183 211) := by kernel_rfl
def setU {H : Type} (l : List Nat) : DataW H := setOf (.agg []) (l.map fun z : Nat => Lit.int .u64 (z : Int))
theorem any_litU (x : Nat) : ∀ l : List Nat, l.any ((fun y : Lit => y.sameKey (.int .u64 (x : Int))) ∘ fun z : Nat => Lit.int .u64 (z : Int)) = l.contains x
  | [] => rfl
  | a :: r => by
    rw [List.any_cons, List.contains_cons, any_litU x r]
    congr 1
    show decide (IntKind.u64 = IntKind.u64 ∧ (a : Int) = (x : Int)) = (x == a)
    by_cases e : a = x
    · subst e
      simp
    · have e' : ¬ x = a := fun h => e h.symm
      have e2 : ¬ (a : Int) = (x : Int) := fun h => e (by omega)
      simp [e2, e']
theorem has_setU {H : Type} (l : List Nat) (x : Nat) : Maps.has (setU (H := H) l) (.int .u64 (x : Int)) = l.contains x := by
  unfold setU
  rw [has_setOf _ _ _ (fun y hy => by obtain ⟨_, _, rfl⟩ := List.mem_map.1 hy; trivial), List.any_map]
  exact any_litU x _
theorem setU_next {H : Type} (l : List Nat) (x : Nat) : setU (H := H) (l ++ [x]) = (setU l).put (.int .u64 (x : Int)) (.agg []) := by
  unfold setU; rw [List.map_append]; exact setOf_snoc _ _ _
theorem key_part (z : Nat) (h : z < 2 ^ 36) : keyOf Tryz.prog 183 (.int .u64 (z : Int)) = some (.int .u64 (z : Int)) := keyOf_int_mk Tryz.underlying183 (WalkArith.wf_u64 (by omega))

/-- A row is not a map. -/
theorem own_not_map {w : World} {B : Nat} {e : TypeId} {s n : Nat} {v : Value} {xs : List Value} {k : TypeId} {R : Value → Option (DataW Unit × List MemPlace)} {b m : Nat} {D : DataW Unit} (h : w.ownsRow B e s v n xs) (hm : w.ownsMap Tryz.prog k R b m D) : v.ownBlock ≠ some b := by
  intro he
  obtain ⟨es, clock, hb, _⟩ := hm
  rcases h.2 with ⟨rfl, _⟩ | ⟨g, cap, cur, rfl, _, hg, _⟩
  · cases he
  · have : g = b := by simpa [Value.ownBlock] using he
    subst this
    rw [hb] at hg
    cases hg
theorem blk_not_map {w : World} {q : Nat} {cs : Array Value} {t : TypeId} {k : TypeId} {R : Value → Option (DataW Unit × List MemPlace)} {b m : Nat} {D : DataW Unit} (h : w.heap[q]? = some (.cells cs t)) (hm : w.ownsMap Tryz.prog k R b m D) : q ≠ b := by
  rintro rfl
  obtain ⟨es, clock, hb, _⟩ := hm
  rw [hb] at h
  cases h
/-- Blocks of other types are as they were. -/
def TNo (t : TypeId) : Prop := t ≠ 204 ∧ t ≠ 120 ∧ t ≠ 183 ∧ t ≠ 93 ∧ t ≠ 88
structure TFr (w w' : World) : Prop where
  os : w'.os = w.os
  tape : w'.tape = w.tape
  output : w'.output = w.output
  size : w.heap.size ≤ w'.heap.size
  block : ∀ (k : Nat) (cs : Array Value) (t : TypeId) (z : Nat × Nat), w.heap[k]? = some (.cells cs t z) → TNo t → w'.heap[k]? = w.heap[k]?
theorem TFr.refl (w : World) : TFr w w := ⟨rfl, rfl, rfl, Nat.le_refl _, fun _ _ _ _ _ _ => rfl⟩
theorem TFr.trans {a b c : World} (h : TFr a b) (k : TFr b c) : TFr a c :=
  ⟨k.os.trans h.os, k.tape.trans h.tape, k.output.trans h.output, Nat.le_trans h.size k.size, fun q cs t z hq ht => (k.block q cs t z ((h.block q cs t z hq ht).trans hq) ht).trans (h.block q cs t z hq ht)⟩
theorem TFr.below {w w' : World} (h : Below w.heap.size w w') : TFr w w' := ⟨h.os, h.tape, h.output, h.size, fun k _ _ _ hk _ => h.block k (Array.getElem?_eq_some_iff.1 hk).1⟩
theorem TFr.grown {w w' : World} {B : Nat} {e : TypeId} {s n : Nat} {v : Value} {xs : List Value} (ho : w.ownsRow B e s v n xs) (hg : w.grownBy w' v.ownBlock) (he : ¬ TNo e) : TFr w w' :=
  ⟨hg.os, hg.tape, hg.output, hg.size, fun k cs t z hk ht => hg.block k (Array.getElem?_eq_some_iff.1 hk).1 fun h => by
    rcases ho.2 with ⟨rfl, _⟩ | ⟨g, cap, cur, rfl, _, hh, _⟩
    · cases h
    · have : k = g := by simpa [Value.ownBlock] using h
      subst this
      have := hk.symm.trans hh
      simp only [Option.some.injEq, Obj.cells.injEq] at this
      rw [this.2.1] at ht
      exact he ht⟩
theorem TFr.set {w : World} {C : Nat} {cs : Array Value} {t : TypeId} (hC : w.heap[C]? = some (.cells cs t)) (he : ¬ TNo t) (i : Nat) (u : Value) : TFr w (w.setCell ⟨C, i, none⟩ u) :=
  ⟨rfl, rfl, rfl, by simp, fun k cs' t' z hk ht => by
    refine Below.heap_setCell w ⟨C, i, none⟩ u k ?_
    rintro rfl
    have := hk.symm.trans hC
    simp only [Option.some.injEq, Obj.cells.injEq] at this
    rw [this.2.1] at ht
    exact he ht⟩
theorem TFr.map {w w' : World} {k : TypeId} {R : Value → Option (DataW Unit × List MemPlace)} {b m : Nat} {D : DataW Unit} (hm : w.ownsMap Tryz.prog k R b m D) (hg : w.grownBy w' (some b)) : TFr w w' :=
  ⟨hg.os, hg.tape, hg.output, hg.size, fun q cs t z hq ht => hg.block q (Array.getElem?_eq_some_iff.1 hq).1 fun h => by
    obtain ⟨es, clock, h1, _⟩ := hm
    rw [← Option.some.inj h] at h1
    rw [h1] at hq
    cases hq⟩
theorem tno_part : ¬ TNo 183 := fun h => h.2.2.1 rfl
theorem tno_step : ¬ TNo 93 := fun h => h.2.2.2.1 rfl
theorem tno_lit : ¬ TNo 88 := fun h => h.2.2.2.2 rfl
theorem tno_sek : ¬ TNo 120 := fun h => h.2.1 rfl
theorem tno_rul : ¬ TNo 204 := fun h => h.1 rfl
theorem TFr.own {w w' : World} {B : Nat} {e : TypeId} {s n : Nat} {v : Value} {xs : List Value} (h : TFr w w') (ho : w.ownsRow B e s v n xs) (he : TNo e) : w'.ownsRow B e s v n xs :=
  ⟨ho.1, by
    rcases ho.2 with hn | ⟨g, cap, cur, hv, hg, hh, r⟩
    · exact .inl hn
    · exact .inr ⟨g, cap, cur, hv, hg, (h.block g cur e (0, 0) hh he).trans hh, r⟩⟩
def XS (s r mb : Nat) (k : Nat) : Prop := k = r ∨ k = s ∨ k = mb
/-- What stays of a searcher. -/
structure SkB (W : World) (s r mb : Nat) (sv pv : Value) (vs : List MVar) (pt : List (List Nat)) : Prop where
  rlt : r < W.heap.size
  slt : s < W.heap.size
  mlt : mb < W.heap.size
  keep : ∀ w', Fr (XS s r mb) W w' → VArg w' sv vs ∧ PPArg w' pv pt ∧ TabT w'
/-- What changes. -/
structure SkD (W w : World) (s r mb : Nat) (sv pv cv prv pav : Value) (L : List SV) (M : List Nat) (S : Sk) : Prop where
  blkR : w.heap[r]? = some (.cells #[sv, pv, cv] 204)
  blkS : w.heap[s]? = some (.cells #[sv, .pointer (some ⟨r, 0, none⟩), .int .i64 (S.fuel : Int), prv, .map (some mb), pav] 120)
  own : w.ownsRow W.heap.size 183 1 cv S.cs.length (u64s S.cs)
  lt36 : ∀ z ∈ S.cs, z < 2 ^ 36
  prf : StOwn W.heap.size w prv L
  prfE : L.map (·.1) = S.proof
  map : w.ownsMap Tryz.prog 183 (unitElem (H := Unit)) mb M.length (setU M)
  path : LOwn W.heap.size w pav S.path
  apart : ∀ x ∈ L, ∀ g, x.2.ownBlock = some g → pav.ownBlock ≠ some g
  fr : Fr (XS s r mb) W w
variable {W w w' w1 w2 : World} {s r mb : Nat} {sv pv cv prv pav v' : Value} {L : List SV} {M : List Nat} {S : Sk} {vs : List MVar} {pt : List (List Nat)}
theorem map_below {k : TypeId} {R : Value → Option (DataW Unit × List MemPlace)} {b m : Nat} {D : DataW Unit} (h : w.ownsMap Tryz.prog k R b m D) (hb : Below w.heap.size w w') : w'.ownsMap Tryz.prog k R b m D := by
  obtain ⟨es, clock, h1, h2⟩ := h
  exact ⟨es, clock, (hb.block b (Array.getElem?_eq_some_iff.1 h1).1).trans h1, h2⟩
theorem SkD.below (h : SkD W w s r mb sv pv cv prv pav L M S) (hb : Below w.heap.size w w') : SkD W w' s r mb sv pv cv prv pav L M S :=
  ⟨(hb.block r (Array.getElem?_eq_some_iff.1 h.blkR).1).trans h.blkR, (hb.block s (Array.getElem?_eq_some_iff.1 h.blkS).1).trans h.blkS, own_below h.own hb, h.lt36, h.prf.below hb, h.prfE, map_below h.map hb, own_below h.path hb, h.apart, h.fr.trans (Fr.below hb)⟩
theorem SkD.rules (h : SkD W w s r mb sv pv cv prv pav L M S) (hB : SkB W s r mb sv pv vs pt) : RulesAt w r sv pv cv vs pt S.cs :=
  ⟨(Array.getElem?_eq_some_iff.1 h.blkR).1, blk9 h.blkR 0 _ rfl, blk9 h.blkR 1 _ rfl, blk9 h.blkR 2 _ rfl, (hB.keep w h.fr).1, (hB.keep w h.fr).2.1, own_parts h.own h.lt36, (hB.keep w h.fr).2.2⟩
theorem SkD.ns (h : SkD W w s r mb sv pv cv prv pav L M S) : s ≠ mb := blk_not_map h.blkS h.map
theorem SkD.nr (h : SkD W w s r mb sv pv cv prv pav L M S) : r ≠ mb := blk_not_map h.blkR h.map
theorem SkD.rs (h : SkD W w s r mb sv pv cv prv pav L M S) : r ≠ s := by
  rintro rfl
  have := h.blkR.symm.trans h.blkS
  simp at this
theorem SkD.cells (h : SkD W w s r mb sv pv cv prv pav L M S) : s < w.heap.size ∧ w.cell? ⟨s, 0, none⟩ = some sv ∧ w.cell? ⟨s, 1, none⟩ = some (.pointer (some ⟨r, 0, none⟩)) ∧ w.cell? ⟨s, 2, none⟩ = some (.int .i64 (S.fuel : Int)) ∧ w.cell? ⟨s, 3, none⟩ = some prv ∧ w.cell? ⟨s, 4, none⟩ = some (.map (some mb)) ∧ w.cell? ⟨s, 5, none⟩ = some pav :=
  ⟨(Array.getElem?_eq_some_iff.1 h.blkS).1, blk9 h.blkS 0 _ rfl, blk9 h.blkS 1 _ rfl, blk9 h.blkS 2 _ rfl, blk9 h.blkS 3 _ rfl, blk9 h.blkS 4 _ rfl, blk9 h.blkS 5 _ rfl⟩
theorem SkD.frz (h : SkD W w s r mb sv pv cv prv pav L M S) (i : Nat) : w.frozen? ⟨s, i, none⟩ = false := frz9 h.blkS i
theorem heap_other (w : World) (p : Addr) (u : Value) (k : Nat) (hk : k ≠ p.block) : (w.setCell p u).heap[k]? = w.heap[k]? := Below.heap_setCell _ _ _ _ hk
theorem StOwn.set {base : Nat} {v : Value} {C : Nat} {cs : Array Value} {t : TypeId} (h : StOwn base w v L) (hC : w.heap[C]? = some (.cells cs t)) (h1 : t ≠ 93) (h2 : t ≠ 88) (i : Nat) (u : Value) : StOwn base (w.setCell ⟨C, i, none⟩ u) v L :=
  ⟨own_set h.1 hC h1 i u, fun x hx => own_set (h.2 x hx) hC h2 i u⟩
/-- A cell of the searcher's own block is set. -/
theorem SkD.setS {S' : Sk} {prv' pav' : Value} {L' : List SV} (i : Nat) (u : Value) (hR : w.heap[r]? = some (.cells #[sv, pv, cv] 204))
    (hS : w.heap[s]? = some (.cells #[sv, .pointer (some ⟨r, 0, none⟩), .int .i64 (S.fuel : Int), prv, .map (some mb), pav] 120))
    (hu : (#[sv, .pointer (some ⟨r, 0, none⟩), .int .i64 (S.fuel : Int), prv, .map (some mb), pav] : Array Value).set! i u = #[sv, .pointer (some ⟨r, 0, none⟩), .int .i64 (S'.fuel : Int), prv', .map (some mb), pav'])
    (hown : w.ownsRow W.heap.size 183 1 cv S'.cs.length (u64s S'.cs)) (hlt : ∀ z ∈ S'.cs, z < 2 ^ 36) (hprf : StOwn W.heap.size w prv' L') (hpe : L'.map (·.1) = S'.proof)
    (hmap : w.ownsMap Tryz.prog 183 (unitElem (H := Unit)) mb M.length (setU M)) (hpath : LOwn W.heap.size w pav' S'.path) (hap : ∀ x ∈ L', ∀ g, x.2.ownBlock = some g → pav'.ownBlock ≠ some g) (hfr : Fr (XS s r mb) W w) :
    SkD W (w.setCell ⟨s, i, none⟩ u) s r mb sv pv cv prv' pav' L' M S' := by
  have hrs : r ≠ s := by
    rintro rfl
    have := hR.symm.trans hS
    simp at this
  refine ⟨(heap_other w ⟨s, i, none⟩ u r hrs).trans hR, ?_, own_set hown hS (by decide) i u, hlt, hprf.set hS (by decide) (by decide) i u, hpe, hmap.setCell (Ne.symm (blk_not_map hS hmap)) u, own_set hpath hS (by decide) i u, hap, hfr.setX (p := ⟨s, i, none⟩) (Or.inr (Or.inl rfl)) u⟩
  rw [heap_setCell_same w s i _ _ u hS, ← hu]
  simp
/-- Fuel is burnt. -/
theorem SkD.burn (h : SkD W w s r mb sv pv cv prv pav L M S) (f : Nat) : SkD W (w.setCell ⟨s, 2, none⟩ (.int .i64 (f : Int))) s r mb sv pv cv prv pav L M ⟨S.cs, f, S.proof, S.path⟩ :=
  SkD.setS (S := S) 2 _ h.blkR h.blkS rfl h.own h.lt36 h.prf h.prfE h.map h.path h.apart h.fr
/-- The path is cut. -/
theorem SkD.cutp {g n c : Nat} (k : Nat) (hk : k ≤ n) (h : SkD W w s r mb sv pv cv prv (.slice (some ⟨g, 0, none⟩) n c) L M S) (hn : n = S.path.length) : SkD W (w.setCell ⟨s, 5, none⟩ (.slice (some ⟨g, 0, none⟩) k c)) s r mb sv pv cv prv (.slice (some ⟨g, 0, none⟩) k c) L M ⟨S.cs, S.fuel, S.proof, S.path.take k⟩ := by
  refine SkD.setS (S := S) 5 _ h.blkR h.blkS rfl h.own h.lt36 h.prf h.prfE h.map ?_ (fun x hx g' hg' => h.apart x hx g' hg') h.fr
  subst hn
  have h0 := lown_e h.path
  rw [List.length_map] at h0
  have h1 := own_shrink k hk h0
  rw [flat_take 3 k _ (lits_wide _), ← List.map_take] at h1
  refine e_lown ?_
  rw [List.length_map, List.length_take, Nat.min_eq_left (by simpa using hk)]
  exact h1
/-- One more step of the proof. -/
theorem SkD.push {x : SV} {n : Nat} (h : SkD W w s r mb sv pv cv prv pav L M S) (hb : Below w.heap.size w w1) (hx : LOwn W.heap.size w1 x.2 x.1.cla) (hxa : ∀ g, x.2.ownBlock = some g → pav.ownBlock ≠ some g) (hg : w1.grownBy w2 prv.ownBlock) (hn : n = L.length + 1)
    (ho : w2.ownsRow W.heap.size 93 3 v' n ((L.map stepCs).flatten ++ stepCs x)) : SkD W (w2.setCell ⟨s, 3, none⟩ v') s r mb sv pv cv v' pav (L ++ [x]) M ⟨S.cs, S.fuel, S.proof ++ [x.1], S.path⟩ := by
  have h1 := h.below hb
  refine SkD.setS (S := S) 3 _ (blk_grown h1.blkR hg h1.prf.1 (by decide)) (blk_grown h1.blkS hg h1.prf.1 (by decide)) rfl (own_grown h1.own hg h1.prf.1 (by decide)) h.lt36 (h1.prf.push hx hg hn ho) (by rw [List.map_append, h.prfE]; rfl)
    (h1.map.kept hg (Ne.symm (own_not_map h1.prf.1 h1.map))) (own_grown h1.path hg h1.prf.1 (by decide)) (fun y hy g hg' => ?_) (h1.fr.grown hg fun k hk => Or.inr (h1.prf.1.lt k hk).1)
  rcases List.mem_append.1 hy with hy | hy
  · exact h.apart y hy g hg'
  · rw [List.mem_singleton.1 hy] at hg'
    exact hxa g hg'
/-- One more literal of the path. -/
theorem SkD.pushp {l : MLit} {n : Nat} (h : SkD W w s r mb sv pv cv prv pav L M S) (hb : Below w.heap.size w w1) (hg : w1.grownBy w2 pav.ownBlock) (hat : v'.ownBlock = pav.ownBlock ∨ v'.ownBlock = some w1.heap.size) (hn : n = S.path.length + 1)
    (ho : w2.ownsRow W.heap.size 88 3 v' n (litsCs S.path ++ litCs l)) : SkD W (w2.setCell ⟨s, 5, none⟩ v') s r mb sv pv cv prv v' L M ⟨S.cs, S.fuel, S.proof, S.path ++ [l]⟩ := by
  have h1 := h.below hb
  have hst : StOwn W.heap.size w2 prv L := ⟨own_grown h1.prf.1 hg h1.path (by decide), fun x hx => by
    refine (h1.prf.2 x hx).kept hg ?_
    cases hxb : x.2.ownBlock with
    | none => exact Or.inl rfl
    | some g => exact Or.inr fun he => h.apart x hx g hxb he.symm⟩
  refine SkD.setS (S := S) 5 _ (blk_grown h1.blkR hg h1.path (by decide)) (blk_grown h1.blkS hg h1.path (by decide)) rfl (own_grown h1.own hg h1.path (by decide)) h.lt36 hst h.prfE
    (h1.map.kept hg (Ne.symm (own_not_map h1.path h1.map))) ?_ (fun y hy g hg' => ?_) (h1.fr.grown hg fun k hk => Or.inr (h1.path.lt k hk).1)
  · show World.ownsRow _ _ _ _ _ _ _
    unfold litsCs at *
    rw [List.length_append, List.length_singleton, ← hn, List.flatMap_append]
    simpa using ho
  · rcases hat with hat | hat
    · rw [hat]; exact h.apart y hy g hg'
    · rw [hat]
      intro he
      have := ((h1.prf.2 y hy).lt g hg').2
      have := Option.some.inj he
      omega
/-- One more key. -/
theorem SkD.key (h : SkD W w s r mb sv pv cv prv pav L M S) (z n : Nat) (hn : n = M.length + 1) (hg : w.grownBy w' (some mb)) (hm : w'.ownsMap Tryz.prog 183 (unitElem (H := Unit)) mb n ((setU M).put (.int .u64 (z : Int)) (.agg []))) :
    SkD W w' s r mb sv pv cv prv pav L (M ++ [z]) S := by
  have ko : ∀ {B : Nat} {e : TypeId} {q n : Nat} {v : Value} {xs : List Value}, w.ownsRow B e q v n xs → w'.ownsRow B e q v n xs := fun ho => ho.kept hg (Or.inr (own_not_map ho h.map))
  have kb : ∀ {q : Nat} {cs : Array Value} {t : TypeId}, w.heap[q]? = some (.cells cs t) → w'.heap[q]? = some (.cells cs t) := fun hq => (hg.block _ (Array.getElem?_eq_some_iff.1 hq).1 (fun he => blk_not_map hq h.map (Option.some.inj he))).trans hq
  refine ⟨kb h.blkR, kb h.blkS, ko h.own, h.lt36, ⟨ko h.prf.1, fun x hx => ko (h.prf.2 x hx)⟩, h.prfE, ?_, ko h.path, h.apart, h.fr.grown hg fun k hk => Or.inl (Or.inr (Or.inr (Option.some.inj hk).symm))⟩
  rw [setU_next, List.length_append, List.length_singleton, ← hn]
  exact hm
end Go.Proofs.YtdjbejlbmaiocagGreatDoor
