/-
  WALK: package text: the reader: model.
-/
import Derived.Test.YtggkbhafbhhhhabGreatDoorTxtR
namespace Go.Proofs.YtggkbhafbhhhhabGreatDoor
open Go.RowKit

def restP (en : Int) (vs : List MVar) (l : List Tok) : PR Mod :=
  (consP en (vs.map MVar.name) (l.length + 1) [] l).bind fun cs l => (goalP en (vs.map MVar.name) l).bind fun g l => if 0 < l.length then .bad (headT en l).place 1 else .ok ⟨vs, cs, g.1, g.2⟩ l
def endP (en : Int) (vs : List MVar) (cs : List MCon) (l : List Tok) : PR Mod :=
  (goalP en (vs.map MVar.name) l).bind fun g l => if 0 < l.length then .bad (headT en l).place 1 else .ok ⟨vs, cs, g.1, g.2⟩ l
def GM (B : Nat) (m : Mod) (v : Value) (w' : World) : Prop := ∃ vs cs, v = modV vs cs m ∧ w'.ownsRow B 47 3 vs m.vars.length (m.vars.flatMap varC) ∧ LCr B w' cs m.cons ∧ (∀ x ∈ m.vars, x.name.size ≤ maxLen) ∧ m.vars.length ≤ 4000 ∧ m.cons.length ≤ 4000
theorem one_cells3 (x : MVar) : ∀ u ∈ varC x, u.oneCell' = true := by
  intro u hu
  simp only [varC, List.mem_cons, List.not_mem_nil, or_false] at hu
  rcases hu with rfl | rfl | rfl <;> rfl
theorem one_cells6 {B : Nat} {w : World} {vv vc vr vl : Value} {c : MCon} (h : ConR B w vv vc vr vl c) : ∀ u ∈ conC vv vc vr vl c, u.oneCell' = true := by
  obtain ⟨a1, c1, rfl⟩ := own_form h.1
  obtain ⟨a2, c2, rfl⟩ := own_form h.2.1
  obtain ⟨a3, c3, rfl⟩ := h.2.2.1.form
  obtain ⟨a4, c4, rfl⟩ := own_form h.2.2.2
  intro u hu
  simp only [conC, List.mem_cons, List.not_mem_nil, or_false] at hu
  rcases hu with rfl | rfl | rfl | rfl | rfl | rfl <;> rfl

theorem ModSt.endd {N R M : Nat} {en : Int} {names : List ByteArray} {w0 w : World} {q : List Tok} {vs cs : Value} {vars : List MVar} {cons : List MCon} (h : ModSt N R M en w0 w q names vs cs vars cons) (u2 u3 e0 e1 e2 e3 : Value) (W : World)
    (hW : W = (((((w.setCell ⟨w0.heap.size + 1, 2, none⟩ u2).setCell ⟨w0.heap.size + 1, 3, none⟩ u3).setCell ⟨w0.heap.size, 0, none⟩ e0).setCell ⟨w0.heap.size, 1, none⟩ e1).setCell ⟨w0.heap.size, 2, none⟩ e2).setCell ⟨w0.heap.size, 3, none⟩ e3) :
    W.ownsRow w0.heap.size 47 3 vs vars.length (vars.flatMap varC) ∧ LCr w0.heap.size W cs cons ∧ Rd N R M en W q ∧ Fr (XRM R M) w0 W := by
  subst hW
  have hRw := h.Rw
  have hNw := h.Nw
  have hne : w0.heap.size ≠ R := by omega
  have hne1 : w0.heap.size + 1 ≠ R := by omega
  have hN1 : N ≤ w0.heap.size + 1 := by omega
  have m0 : ∃ cs, w.heap[w0.heap.size + 1]? = some (.cells cs 25) := ⟨_, h.mod⟩
  have m1 := blk_put m0 2 u2
  have k0 : ∃ cs, ((w.setCell ⟨w0.heap.size + 1, 2, none⟩ u2).setCell ⟨w0.heap.size + 1, 3, none⟩ u3).heap[w0.heap.size]? = some (.cells cs 25) :=
    ⟨_, (Below.heap_setCell _ _ _ _ (show w0.heap.size ≠ w0.heap.size + 1 by omega)).trans ((Below.heap_setCell _ _ _ _ (show w0.heap.size ≠ w0.heap.size + 1 by omega)).trans h.res)⟩
  have k1 := blk_put k0 0 e0
  have k2 := blk_put k1 1 e1
  have k3 := blk_put k2 2 e2
  refine ⟨?_, ?_, ?_, ?_⟩
  · exact own_set (own_set (own_set (own_set (own_set (own_set h.vown m0.choose_spec (by decide) 2 u2) m1.choose_spec (by decide) 3 u3) k0.choose_spec (by decide) 0 e0) k1.choose_spec (by decide) 1 e1) k2.choose_spec (by decide) 2 e2) k3.choose_spec (by decide) 3 e3
  · exact (((((h.cown.set m0.choose_spec 2 u2).set m1.choose_spec 3 u3).set k0.choose_spec 0 e0).set k1.choose_spec 1 e1).set k2.choose_spec 2 e2).set k3.choose_spec 3 e3
  · exact (((((h.rd.set (p := ⟨w0.heap.size + 1, 2, none⟩) hne1 hN1 _).set (p := ⟨w0.heap.size + 1, 3, none⟩) hne1 hN1 _).set (p := ⟨w0.heap.size, 0, none⟩) hne h.Nw _).set (p := ⟨w0.heap.size, 1, none⟩) hne h.Nw _).set (p := ⟨w0.heap.size, 2, none⟩) hne h.Nw _).set (p := ⟨w0.heap.size, 3, none⟩) hne h.Nw _
  · exact (((((h.fr.setNew (p := ⟨w0.heap.size + 1, 2, none⟩) (Nat.le_succ _) _).setNew (p := ⟨w0.heap.size + 1, 3, none⟩) (Nat.le_succ _) _).setNew (p := ⟨w0.heap.size, 0, none⟩) (Nat.le_refl _) _).setNew (p := ⟨w0.heap.size, 1, none⟩) (Nat.le_refl _) _).setNew (p := ⟨w0.heap.size, 2, none⟩) (Nat.le_refl _) _).setNew (p := ⟨w0.heap.size, 3, none⟩) (Nat.le_refl _) _
set_option maxHeartbeats 6400000 in
set_option maxRecDepth 100000 in
theorem rmodel_any (N R M : Nat) (en : Int) (w : World) (l : List Tok) (h : Rd N R M en w l) (hn : NmS w M []) (hNM : N ≤ M) :
    Calls Tryz.prog 41 #[.pointer (some ⟨R, 0, none⟩)] w (PostR (modelP en l) (GM w.heap.size) N R M en (XRM R M) w) := by
  have HB : Hid (Rd N R M en w l) := h
  have HN : Hid (NmS w M []) := hn
  have hMR : M ≠ R := h.1.2.2
  have hRw : R < w.heap.size := by obtain ⟨_, _, hR, _⟩ := h; exact (Array.getElem?_eq_some_iff.1 hR).1
  have hMw : M < w.heap.size := hn.lt
  have hNw : N ≤ w.heap.size := h.1.2.1
  have hll := h.len
  obtain ⟨iV, hiV, hzV0, hzV1, hzV2⟩ := info_parts Tryz.infoVar5
  obtain ⟨iC, hiC, hzC0, hzC1, hzC2⟩ := info_parts Tryz.infoCon5
  obtain ⟨P, hP⟩ : ∃ P, modelP en l = P := ⟨_, rfl⟩
  have HP0 : Hid (P = (varsP en (l.length + 1) [] l).bind (restP en)) := by show _ = _; rw [← hP]; rfl
  rw [hP]
  clear h hP hn
  go_enter Tryz.func41, Tryz.ntmps41
  go_wp2_with fail
  obtain ⟨W0, hW0⟩ : ∃ W0, W0 = (w.alloc (.cells #[.slice none 0 0, .slice none 0 0, .int .i64 0, .int .i64 0] 25)).alloc (.cells #[.slice none 0 0, .slice none 0 0, .int .i64 0, .int .i64 0] 25) := ⟨_, rfl⟩
  have hbW : Below w.heap.size w W0 := by rw [hW0]; exact (below_alloc _ _).trans ((below_alloc _ _).mono (by simp))
  have HS0 : Hid (ModSt N R M en w W0 l [] (.slice none 0 0) (.slice none 0 0) [] []) := by
    refine ⟨HB.out.below hbW, Fr.below hbW, HN.out.old (hbW.block M hMw), ?_, ?_, hRw, hNw, hMw, hNM, World.ownsRow_nil _ _ _ _, LCr.none _ _⟩
    · rw [hW0]; exact ((below_alloc _ _).block _ (by simp)).trans (by show (w.heap.push _)[w.heap.size]? = _; simp)
    · have hsz : w.heap.size + 1 = (w.alloc (.cells #[.slice none 0 0, .slice none 0 0, .int .i64 0, .int .i64 0] 25)).heap.size := by simp
      rw [hW0, hsz]; exact heap_alloc_new _ _
  rw [← hW0]
  clear hbW hW0
  go_loopw [] (fun wr => ∃ (f : Nat) (vars : List MVar) (q : List Tok) (vs : Value), Hid (P = (varsP en f vars q).bind (restP en)) ∧ Hid (ModSt N R M en w wr q (vars.map MVar.name) vs (.slice none 0 0) vars []) ∧ Hid (∀ n ∈ vars.map MVar.name, n.data.toList ≠ []) ∧ Hid (∀ x ∈ vars, x.name.size ≤ maxLen) ∧ q.length + 1 ≤ f ∧ vars.length + q.length ≤ 4000) (fun wr => leftT R wr)
  case atStart => exact ⟨_, [], l, _, HP0, HS0, fun n hn => by (simp at hn), fun x hx => by (simp at hx), by omega, by simp; omega⟩
  case round =>
    obtain ⟨f, vars, q, vs, HPV, HSV, HNE, HSZ, hf, hlen⟩ := hrel
    obtain ⟨g, rfl⟩ : ∃ g, f = g + 1 := ⟨f - 1, by omega⟩
    have hf2 := tokF2 (headT en q)
    obtain ⟨av, cv, hv⟩ := own_form HSV.out.vown
    subst hv
    have HVW : Hid ((⟨#[118, 97, 114]⟩ : ByteArray).toList = [118, 97, 114]) := by show _ = _; simp [go_sem]
    cases hc : ((headT en q).text.toList == [118, 97, 114])
    · have HPE : Hid (P = (consP en (vars.map MVar.name) (q.length + 1) [] q).bind (endP en vars)) := by show _ = _; rw [HPV.out, varsP, hc]; rfl
      obtain ⟨names, hnames⟩ : ∃ names, vars.map MVar.name = names := ⟨_, rfl⟩
      have HNM : Hid (vars.map MVar.name = names) := hnames
      rw [hnames] at HPE HSV HNE
      clear HPV hnames
      go_wp2_with fail
      refine (ahead_any N R M en _ q HSV.out.rd).mono ?_
      rintro e w6 ⟨rfl, hb6⟩
      have HS6 : Hid (ModSt N R M en w w6 q names (.slice av vars.length cv) (.slice none 0 0) vars []) := HSV.out.below hb6
      have hvl : vars.length ≤ 4000 := by omega
      unfold tokA
      clear hb6 HSV
      go_wp2_with fail
      clear hc hf2
      go_loopw [] (fun wr => ∃ (f : Nat) (cons : List MCon) (q : List Tok) (cs : Value), Hid (P = (consP en names f cons q).bind (endP en vars)) ∧ Hid (ModSt N R M en w wr q names (.slice av vars.length cv) cs vars cons) ∧ q.length + 1 ≤ f ∧ cons.length + q.length ≤ 4000) (fun wr => leftT R wr)
      case atStart => exact ⟨_, [], q, _, HPE, HS6, by omega, by simp; omega⟩
      case round =>
        clear HPE HS6 hf hlen
        obtain ⟨f, cons, q, cs, HPV, HSV, hf, hlen⟩ := hrel
        obtain ⟨g, rfl⟩ : ∃ g, f = g + 1 := ⟨f - 1, by omega⟩
        have hf2 := tokF2 (headT en q)
        obtain ⟨ac, cc, hv⟩ := HSV.out.cown.form
        subst hv
        have HVX : Hid ((⟨#[99, 111, 110]⟩ : ByteArray).toList = [99, 111, 110]) := by show _ = _; simp [go_sem]
        cases hc : ((headT en q).text.toList == [99, 111, 110])
        · have HPE : Hid (P = endP en vars cons q) := by show _ = _; rw [HPV.out, consP, hc]; rfl
          clear HPV
          go_wp2_with fail
          refine (ahead_any N R M en _ q HSV.out.rd).mono ?_
          rintro e w7 ⟨rfl, hb7⟩
          have HS7 : Hid (ModSt N R M en w w7 q names (.slice av vars.length cv) (.slice ac cons.length cc) vars cons) := HSV.out.below hb7
          unfold tokA
          clear hb7 HSV
          go_wp2_with fail
          clear hc hf2
          refine (rgoal_any N R M en names w7 q HS7.out.rd HS7.out.nm HNE.out).mono ?_
          intro e w8 hp
          cases hs : goalP en names q with
          | bad x er =>
            rw [hs] at hp
            obtain ⟨rfl, hfr⟩ := hp
            have hfr2 := HS7.out.fr.trans hfr.toRM
            have HPB : Hid (P = .bad x er) := by show _ = _; rw [HPE.out]; unfold endP; rw [HNM.out, hs]; rfl
            clear hs hfr
            go_wp2
            exact ⟨rfl, by rw [HPB.out]; exact ⟨rfl, hfr2⟩⟩
          | ok gg q5 =>
            rw [hs] at hp
            obtain ⟨v, rfl, rfl, hrd, hfr⟩ := hp
            have HS8 : Hid (ModSt N R M en w w8 q5 names (.slice av vars.length cv) (.slice ac cons.length cc) vars cons) := HS7.out.callR hfr hrd
            have HPN : Hid (P = if 0 < q5.length then .bad (headT en q5).place 1 else .ok ⟨vars, cons, gg.1, gg.2⟩ q5) := by show _ = _; rw [HPE.out]; unfold endP; rw [HNM.out, hs]; rfl
            have r2 := blk9 HS8.out.mod 2 _ rfl
            have r3 := blk9 HS8.out.mod 3 _ rfl
            have r0 := blk9 HS8.out.mod 0 _ rfl
            have r1 := blk9 HS8.out.mod 1 _ rfl
            have z2 := frz9 HS8.out.mod 2
            have z3 := frz9 HS8.out.mod 3
            have b0 := blk9 HS8.out.res 0 _ rfl
            have b1 := blk9 HS8.out.res 1 _ rfl
            have b2 := blk9 HS8.out.res 2 _ rfl
            have b3 := blk9 HS8.out.res 3 _ rfl
            have y0 := frz9 HS8.out.res 0
            have y1 := frz9 HS8.out.res 1
            have y2 := frz9 HS8.out.res 2
            have y3 := frz9 HS8.out.res 3
            obtain ⟨_, vr, hR, ar, cr, rfl, ⟨hcr1, hcr2⟩, _, _⟩ := HS8.out.rd
            have cR : w8.cell? ⟨R, 0, none⟩ = some (.slice ar q5.length cr) := by rw [Lib.cell_of_heap hR]; rfl
            have hRne : R ≠ w.heap.size + 1 := by omega
            obtain ⟨g1, hg1⟩ : ∃ g1, gg.1 = g1 := ⟨_, rfl⟩
            obtain ⟨g2, hg2⟩ : ∃ g2, gg.2 = g2 := ⟨_, rfl⟩
            rw [hg1, hg2] at HPN ⊢
            have HSE : Hid (Rd N R M en ((w8.setCell ⟨w.heap.size + 1, 2, none⟩ (.int .i64 g1)).setCell ⟨w.heap.size + 1, 3, none⟩ (.int .i64 g2)) q5 ∧ Fr (XRM R M) w ((w8.setCell ⟨w.heap.size + 1, 2, none⟩ (.int .i64 g1)).setCell ⟨w.heap.size + 1, 3, none⟩ (.int .i64 g2))) :=
              ⟨(HS8.out.rd.set (p := ⟨w.heap.size + 1, 2, none⟩) (Ne.symm hRne) (show N ≤ w.heap.size + 1 by omega) _).set (p := ⟨w.heap.size + 1, 3, none⟩) (Ne.symm hRne) (show N ≤ w.heap.size + 1 by omega) _, (HS8.out.fr.setNew (p := ⟨w.heap.size + 1, 2, none⟩) (show w.heap.size ≤ w.heap.size + 1 by omega) _).setNew (p := ⟨w.heap.size + 1, 3, none⟩) (show w.heap.size ≤ w.heap.size + 1 by omega) _⟩
            clear hs hfr hrd HPE HS7 hR hg1 hg2 hcr1 hcr2
            cases q5 with
            | nil =>
              have HPX : Hid (P = .ok ⟨vars, cons, g1, g2⟩ []) := by show _ = _; rw [HPN.out]; rfl
              go_wp2
              refine bodyPost_ret (by simp [results, Tryz.results41, go_sem, *]; try rfl) rfl ?_
              rw [HPX.out]
              obtain ⟨e1, e2, e3, e4⟩ := HS8.out.endd _ _ _ _ _ _ _ rfl
              exact ⟨_, rfl, ⟨_, _, rfl, e1, e2, HSZ.out, hvl, by show cons.length ≤ 4000; omega⟩, e3, e4⟩
            | cons t5 r5 =>
              have HPX : Hid (P = .bad t5.place 1) := by show _ = _; rw [HPN.out]; rfl
              have hl5 : ((t5 :: r5).length : Int) = (r5.length : Int) + 1 := by simp
              go_wp2_with fail
              refine (giveup_any N R M en 1 _ (t5 :: r5) HSE.out.1).mono ?_
              rintro e w9 ⟨rfl, hb9⟩
              have hfr2 := HSE.out.2.trans (Fr.below hb9)
              go_wp2
              exact ⟨rfl, by rw [HPX.out]; exact ⟨rfl, hfr2⟩⟩
        · have HPE : Hid (P = ((conP en names q).bind fun c l => consP en names g (cons ++ [c]) l).bind (endP en vars)) := by show _ = _; rw [HPV.out, consP, hc, if_pos rfl]
          clear HPV
          go_wp2_with fail
          refine (ahead_any N R M en _ q HSV.out.rd).mono ?_
          rintro e w7 ⟨rfl, hb7⟩
          have HS7 : Hid (ModSt N R M en w w7 q names (.slice av vars.length cv) (.slice ac cons.length cc) vars cons) := HSV.out.below hb7
          have HM7 : Hid (leftT R wr = q.length) := leftT_rd HSV.out.rd
          unfold tokA
          clear hb7 HSV
          go_wp2_with fail
          have c1 : w7.cell? ⟨w.heap.size + 1, 1, none⟩ = some (.slice ac cons.length cc) := blk9 HS7.out.mod 1 _ rfl
          have HSD : Hid (ModSt N R M en w w7.drew q names (.slice av vars.length cv) (.slice ac cons.length cc) vars cons) := HS7.out.below (Below.refl _ _).drew
          have hnv := rcon_any N R M en names w7.drew q HSD.out.rd HSD.out.nm HNE.out
          cases hs : conP en names q with
          | bad x er =>
            have HPB : Hid (P = .bad x er) := by show _ = _; rw [HPE.out, hs]; rfl
            rw [hs] at hnv
            clear hs hc hf2
            refine wp_region_held_drew (S := fun w' => w' = w7.drew) (by kernel_rfl) rfl (fun hHeld => ?_)
            refine wpAnyH_take (i := 0) (v := ?v0b) rfl (by kernel_rfl) (by kernel_rfl) (by kernel_rfl) (fun _ _ _ h => h) (Or.inl ⟨by rfl, ?y0b⟩) rfl ?r0b
            case y0b => intro wq hSw; subst hSw; go_simp; with_reducible rfl
            refine wpAnyH_take (i := 1) (v := ?v1b) rfl (by kernel_rfl) (by kernel_rfl) (by kernel_rfl) (fun _ _ _ h => h) (Or.inl ⟨by rfl, ?y1b⟩) rfl ?r1b
            case y1b => intro wq hSw; subst hSw; go_simp; with_reducible rfl
            refine wpAnyH_take (i := 2) (v := ?v2b) rfl (by kernel_rfl) (by kernel_rfl) (by kernel_rfl) (fun _ _ _ h => h) (Or.inl ⟨by rfl, ?y2b⟩) rfl ?r2b
            case y2b => intro wq hSw; subst hSw; go_simp; with_reducible rfl
            refine wpAnyH_ready (rs := [3]) (by kernel_rfl) (by simp) ?_
            refine AllReadyH.cons rfl (fun K hK => ?_) AllReadyH.nil
            clear hK
            go_simp
            refine hnv.mono ?_
            rintro e w8 ⟨rfl, hfr⟩
            have hfr2 := HSD.out.fr.trans hfr.toRM
            clear hnv hfr
            go_wp2
            exact ⟨rfl, by rw [HPB.out]; exact ⟨rfl, hfr2⟩⟩
          | ok x q2 =>
            have hq2 : q2.length + 1 ≤ q.length := con_len hs
            have HPN : Hid (P = (consP en names g (cons ++ [x]) q2).bind (endP en vars)) := by show _ = _; rw [HPE.out, hs]; rfl
            rw [hs] at hnv
            clear hs hc hf2 HPE
            go_region_law
              (first
                | (rw [if_pos (by rfl)]; refine wp_append_own _ _ _ 23 rfl w.heap.size 54 iC _ 6 112 Tryz.underCons5 hiC hzC0 hzC1 hzC2 rfl (by decide) _ _ _ rfl (hw8.alloc _) ⟨w8.heap.size, 0, none⟩ 1 1 (conC _ _ _ _ x) rfl rfl (one_laidC w8 _ _ _ _ x) (one_cells6 hcr) ?_ ?_ ?_ ?_; (unfold maxLen; omega); omega; (have := HT.base; simp; omega); intro v9 w9 hown9 hg9 _; have HU := HT.pushCon hcr hw8 hcells8 hg9 hown9; have d0 := blk9 HU.1 1 _ rfl; have z0 := frz9 HU.1 1; obtain ⟨a9, b9, hv9⟩ := own_form hown9; subst hv9)
                | (rw [if_pos (by rfl)]; go_simp; go_at_call 72; refine hnv.mono ?_; rintro e w8 ⟨v8, rfl, ⟨vv, vc, vr, vl, rfl, hcr0⟩, hrd8, hfr8⟩; have HT := HSD.out.callR hfr8 hrd8; have hcr := hcr0.mono HSD.out.base; obtain ⟨x1, y1, hx1⟩ := own_form hcr.1; obtain ⟨x2, y2, hx2⟩ := own_form hcr.2.1; obtain ⟨x3, y3, hx3⟩ := hcr.2.2.1.form; obtain ⟨x4, y4, hx4⟩ := own_form hcr.2.2.2; subst hx1 hx2 hx3 hx4; obtain ⟨cells8, hw8, hcells8⟩ := HT.cown; have c8 := blk9 HT.mod 1 _ rfl; have hl8 : w.heap.size + 1 < w8.heap.size := (Array.getElem?_eq_some_iff.1 HT.mod).1; unfold conV; dsimp only))
            all_goals
              have HS9 : Hid (ModSt N R M en w (w9.setCell ⟨w.heap.size + 1, 1, none⟩ (.slice a9 (cons.length + 1) b9)) q2 names (.slice av vars.length cv) (.slice a9 (cons.length + 1) b9) vars (cons ++ [x])) := HU.2
              have HM9 : Hid (leftT R (w9.setCell ⟨w.heap.size + 1, 1, none⟩ (.slice a9 (cons.length + 1) b9)) < leftT R wr) := by show _ < _; rw [leftT_rd HS9.out.rd, HM7.out]; omega
              clear HT HU HSD hnv hg9 hown9 d0 z0 c1 c8 hrd8 hfr8 HS7 hcr hcr0 hw8 hcells8
              go_wp2
              go_roundw
              case rel => exact ⟨g, cons ++ [x], q2, _, HPN, HS9, by omega, by simp; omega⟩
              case measure => exact HM9.out
    · have HPE : Hid (P = ((newVarP en q).bind fun v l => varsP en g (vars ++ [v]) l).bind (restP en)) := by show _ = _; rw [HPV.out, varsP, hc, if_pos rfl]
      clear HPV
      go_wp2_with fail
      refine (ahead_any N R M en _ q HSV.out.rd).mono ?_
      rintro e w6 ⟨rfl, hb6⟩
      have HS6 : Hid (ModSt N R M en w w6 q (vars.map MVar.name) (.slice av vars.length cv) (.slice none 0 0) vars []) := HSV.out.below hb6
      have HM6 : Hid (leftT R wr = q.length) := leftT_rd HSV.out.rd
      unfold tokA
      clear hb6 HSV
      go_wp2_with fail
      have c0 : w6.cell? ⟨w.heap.size + 1, 0, none⟩ = some (.slice av vars.length cv) := blk9 HS6.out.mod 0 _ rfl
      have HSD : Hid (ModSt N R M en w w6.drew q (vars.map MVar.name) (.slice av vars.length cv) (.slice none 0 0) vars []) := HS6.out.below (Below.refl _ _).drew
      have hnv := newvar_any N R M en (vars.map MVar.name) w6.drew q HSD.out.rd HSD.out.nm (by simp; omega) hNM
      rw [List.length_map] at hnv
      cases hs : newVarP en q with
      | bad x er =>
        have HPB : Hid (P = .bad x er) := by show _ = _; rw [HPE.out, hs]; rfl
        rw [hs] at hnv
        clear hs hc hf2
        refine wp_region_held_drew (S := fun w' => w' = w6.drew) (by kernel_rfl) rfl (fun hHeld => ?_)
        refine wpAnyH_take (i := 0) (v := ?v0) rfl (by kernel_rfl) (by kernel_rfl) (by kernel_rfl) (fun _ _ _ h => h) (Or.inl ⟨by rfl, ?y0⟩) rfl ?r0
        case y0 => intro wq hSw; subst hSw; go_simp; with_reducible rfl
        refine wpAnyH_take (i := 1) (v := ?v1) rfl (by kernel_rfl) (by kernel_rfl) (by kernel_rfl) (fun _ _ _ h => h) (Or.inl ⟨by rfl, ?y1⟩) rfl ?r1
        case y1 => intro wq hSw; subst hSw; go_simp; with_reducible rfl
        refine wpAnyH_take (i := 2) (v := ?v2) rfl (by kernel_rfl) (by kernel_rfl) (by kernel_rfl) (fun _ _ _ h => h) (Or.inl ⟨by rfl, ?y2⟩) rfl ?r2
        case y2 => intro wq hSw; subst hSw; go_simp; with_reducible rfl
        refine wpAnyH_take (i := 3) (v := ?v3) rfl (by kernel_rfl) (by kernel_rfl) (by kernel_rfl) (fun _ _ _ h => h) (Or.inl ⟨by rfl, ?y3⟩) rfl ?r3
        case y3 => intro wq hSw; subst hSw; go_simp; with_reducible rfl
        refine wpAnyH_take (i := 4) (v := ?v4) rfl (by kernel_rfl) (by kernel_rfl) (by kernel_rfl) (fun _ _ _ h => h) (Or.inl ⟨by rfl, ?y4⟩) rfl ?r4
        case y4 => intro wq hSw; subst hSw; go_simp; with_reducible rfl
        refine wpAnyH_take (i := 5) (v := ?v5) rfl (by kernel_rfl) (by kernel_rfl) (by kernel_rfl) (fun _ _ _ h => h) (Or.inl ⟨by rfl, ?y5⟩) rfl ?r5
        case y5 => intro wq hSw; subst hSw; go_simp; with_reducible rfl
        refine wpAnyH_ready (rs := [6]) (by kernel_rfl) (by simp) ?_
        refine AllReadyH.cons rfl (fun K hK => ?_) AllReadyH.nil
        clear hK
        go_simp
        refine hnv.mono ?_
        rintro e w7 ⟨rfl, hfr⟩
        have hfr2 := HSD.out.fr.trans hfr
        clear hnv hfr
        go_wp2
        exact ⟨rfl, by rw [HPB.out]; exact ⟨rfl, hfr2⟩⟩
      | ok x q2 =>
        have HNX : Hid (∀ n ∈ (vars ++ [x]).map MVar.name, n.data.toList ≠ []) := by
          intro n hn
          rw [List.map_append, List.mem_append] at hn
          rcases hn with hn | hn
          · exact HNE.out n hn
          · simp at hn; subst hn; exact newvar_ne hs
        have hq2 : q2.length + 1 ≤ q.length := newvar_len hs
        have HPN : Hid (P = (varsP en g (vars ++ [x]) q2).bind (restP en)) := by show _ = _; rw [HPE.out, hs]; rfl
        rw [hs] at hnv
        clear hs hc hf2 HPE
        go_region_law
          (first
            | (rw [if_pos (by rfl)]; refine wp_append_own _ _ _ 22 rfl w.heap.size 47 iV _ 3 32 Tryz.underVars5 hiV hzV0 hzV1 hzV2 rfl (by decide) _ _ _ rfl (HT.vown.alloc _) ⟨w7.heap.size, 0, none⟩ 1 1 (varC x) rfl rfl (one_laidV w7 x) (one_cells3 x) ?_ ?_ ?_ ?_; (unfold maxLen; omega); omega; (have := HT.base; simp; omega); intro v8 w8 hown8 hg8 _; have HU := HT.pushVar x hg8 hown8; have d0 := blk9 HU.1 0 _ rfl; have z0 := frz9 HU.1 0; obtain ⟨a8, b8, hv8⟩ := own_form hown8; subst hv8)
            | (rw [if_pos (by rfl)]; go_simp; go_at_call 71; refine hnv.mono ?_; rintro e w7 ⟨v7, rfl, ⟨rfl, hsz7, hnm7⟩, hrd7, hfr7⟩; have HT := HSD.out.call hfr7 hrd7 hnm7; have c7 := blk9 HT.mod 0 _ rfl; have hl7 : w.heap.size + 1 < w7.heap.size := (Array.getElem?_eq_some_iff.1 HT.mod).1; dsimp only))
        all_goals
          have HS9 : Hid (ModSt N R M en w (w8.setCell ⟨w.heap.size + 1, 0, none⟩ (.slice a8 (vars.length + 1) b8)) q2 ((vars ++ [x]).map MVar.name) (.slice a8 (vars.length + 1) b8) (.slice none 0 0) (vars ++ [x]) []) := by
            have := HU.2
            rw [List.map_append]
            exact this
          have HSX : Hid (∀ y ∈ vars ++ [x], y.name.size ≤ maxLen) := by
            intro y hy
            rw [List.mem_append] at hy
            rcases hy with hy | hy
            · exact HSZ.out y hy
            · simp at hy; subst hy; exact hsz7
          have HM9 : Hid (leftT R (w8.setCell ⟨w.heap.size + 1, 0, none⟩ (.slice a8 (vars.length + 1) b8)) < leftT R wr) := by show _ < _; rw [leftT_rd HS9.out.rd, HM6.out]; omega
          clear HT HU HSD hnv hg8 hown8 d0 z0 c0 c7 hrd7 hfr7 hnm7 hsz7 HS6
          go_wp2
          go_roundw
          case rel => exact ⟨g, vars ++ [x], q2, _, HPN, HS9, HNX, HSX, by omega, by simp; omega⟩
          case measure => exact HM9.out
end Go.Proofs.YtggkbhafbhhhhabGreatDoor
