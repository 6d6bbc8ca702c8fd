/-
  PART 8 of what the proof leans on (TxtO, TxtP, TxtQ, RfG, RfH).
-/
import Derived.Test.YtdjbejlbmaiocabGreatDoorPartG
import Derived.Deep.RegionHeld3
import Derived.Deep.RegionLaw
import Derived.Deep.CutBlock
import Derived.Deep.DeepCutAuto
/-
  WALK: package text: the reader: con, kind max. (Made by gencon.py.)
-/
namespace Go.Proofs.YtdjbejlbmaiocabGreatDoor
open Go.RowKit

theorem append_nothing9 (w : World) (ty : TypeId) (base n c : Nat) (v : Value) (xs : List Value) (hown : w.ownsRow base 3 1 v n xs) :
    (Builtin.append_ #[50, 50] ty #[v, .slice none 0 c]).run Tryz.prog w = .ok v w := by
  obtain ⟨i0, hi, hz0, hz1, hz2⟩ := info_parts Tryz.infoInt5
  rcases hown.2 with ⟨rfl, rfl⟩ | ⟨g, cap, cur, rfl, _, _, hnc, _⟩
  · simp [Builtin.append_, run_underlying Tryz.underInts5, sizeOf, typeInfo, hi, Builtin.lenOf, Builtin.firstCells]
  · simp [Builtin.append_, run_underlying Tryz.underInts5, sizeOf, typeInfo, hi, Builtin.lenOf, Builtin.firstCells, hnc, storeCells]
theorem ints_one9 (l : List Int) : ∀ u ∈ l.map (Value.int .i64), u.oneCell' = true := by
  intro u hu
  obtain ⟨z, _, rfl⟩ := List.mem_map.1 hu
  rfl
theorem more_len {α : Type} {en : Int} {item : List Tok → PR α} (hE : Eats item) : ∀ (f : Nat) (acc : List α) (l : List Tok) (xs : List α) (r : List Tok), moreP en item f acc l = .ok xs r → xs.length + r.length ≤ acc.length + l.length
  | 0, acc, l, xs, r, h => by cases h
  | f + 1, acc, l, xs, r, h => by
    unfold moreP at h
    split at h
    · rename_i hb
      obtain ⟨t, q, h1, h2⟩ := PR.bind_ok h
      obtain ⟨x, q2, h3, h4⟩ := PR.bind_ok h2
      have e1 := skip_len solid_comma h1
      have e2 := hE q x q2 h3
      have e3 := more_len hE f _ q2 xs r h4
      simp at e3
      omega
    · obtain ⟨t, q, h1, h2⟩ := PR.bind_ok h
      have e1 := skip_len solid_close h1
      cases h2
      omega
theorem reads_len {α : Type} {en : Int} {item : List Tok → PR α} (hE : Eats item) {l r : List Tok} {xs : List α} (h : readP en item l = .ok xs r) : xs.length + r.length ≤ l.length := by
  unfold readP at h
  obtain ⟨t, q, h1, h2⟩ := PR.bind_ok h
  have e1 := skip_len solid_open h1
  split at h2
  · obtain ⟨t2, q2, h3, h4⟩ := PR.bind_ok h2
    have e2 := skip_len solid_close h3
    cases h4
    simp; omega
  · obtain ⟨x, q2, h3, h4⟩ := PR.bind_ok h2
    have e2 := hE q x q2 h3
    have e3 := more_len hE _ _ q2 xs r h4
    simp at e3
    omega
/-- Numbers of one's own are appended. -/
theorem wp_append_rows9 {w : World} {o : Oper} {a : Act} {K : Act → World → Prop} {Q : Exit → Act → World → Prop} (s x : Operand)
    (ho : o.op = .call { callee := .builtin .append, args := #[s, x], argTypes := #[50, 50] }) (base : Nat)
    (v : Value) (xs : List Int) (hs : a.eval s = v) (hown : w.ownsRow base 3 1 v xs.length (xs.map (Value.int .i64)))
    (u : Value) (l : List Int) (hx : a.eval x = u) (base2 : Nat) (hl : w.ownsRow base2 3 1 u l.length (l.map (Value.int .i64))) (hn : xs.length + l.length ≤ 100000) (hbase : base ≤ w.heap.size)
    (h : ∀ v' w', w'.ownsRow base 3 1 v' (xs ++ l).length ((xs ++ l).map (Value.int .i64)) → w.grownBy w' v.ownBlock → K (a.put o.dst v') w') : o.wp Tryz.prog a w K Q := by
  obtain ⟨i0, hi, hz0, hz1, hz2⟩ := info_parts Tryz.infoInt5
  rcases hl.2 with ⟨rfl, h0⟩ | ⟨g, cap, cur, rfl, _⟩
  · have hl0 : l = [] := List.length_eq_zero_iff.1 h0
    subst hl0
    have hr := append_nothing9 w o.type base xs.length 0 v _ hown
    unfold Oper.wp execOp
    simp only [ho, resolve, invoke, builtin, Sem.run_bind, Sem.run_pure, Result.andThen_ok, List.map_toArray, List.map_cons, List.map_nil, hs, hx, hr]
    exact h v w (by rw [List.append_nil]; exact hown) ⟨rfl, rfl, rfl, Nat.le_refl _, fun _ _ _ => rfl⟩
  · refine wp_append_own w s x 50 ho base 3 i0 (.int .i64 0) 1 8 Tryz.underInts5 hi hz0 hz1 hz2 rfl (by decide) v xs.length _ hs hown ⟨g, 0, none⟩ l.length cap (l.map (Value.int .i64)) hx (by simp) ?_ (ints_one9 l) (by unfold maxLen; omega) (by omega) hbase ?_
    · exact hl.cells rfl
    · intro v' w' h1 h2 h3
      exact h v' w' (by rw [List.length_append, List.map_append]; exact h1) h2
theorem row_ne_cells {w : World} {B : Nat} {e t : TypeId} {size n g cap : Nat} {xs : List Value} (h : w.ownsRow B e size (.slice (some ⟨g, 0, none⟩) n cap) n xs) {C : Nat} {cs : Array Value} (hC : w.heap[C]? = some (.cells cs t)) (ht : t ≠ e) : C ≠ g := by
  rcases h.2 with ⟨hn, _⟩ | ⟨g', cap', cur, hv, _, hh, _⟩
  · cases hn
  · simp only [Value.slice.injEq, Option.some.injEq, Addr.mk.injEq, and_true, true_and] at hv
    obtain ⟨rfl, rfl⟩ := hv
    intro e1
    rw [e1, hh] at hC
    injection hC with h1
    injection h1 with _ h2
    exact ht h2.symm
theorem ConS.append8 {N R M : Nat} {en : Int} {names : List ByteArray} {w0 : World} {C g : Nat} {w w' : World} {q : List Tok} {a : Int} {vs : List Int} {v' : Value} (h : ConS N R M en names w0 C w q (.slice (some ⟨g, 0, none⟩) 1 1) (.slice none 0 0) (.slice none 0 0) (.slice none 0 0) ⟨8, [a], [], 0, [], []⟩)
    (hown : w'.ownsRow w0.heap.size 3 1 v' ([a] ++ vs).length (([a] ++ vs).map (Value.int .i64))) (hg : w.grownBy w' (some g)) :
    ConS N R M en names w0 C (w'.setCell ⟨C, 1, none⟩ v') q v' (.slice none 0 0) (.slice none 0 0) (.slice none 0 0) ⟨8, [a] ++ vs, [], 0, [], []⟩ ∧ w'.heap[C]? = some (.cells #[.int .i64 8, .slice (some ⟨g, 0, none⟩) 1 1, .slice none 0 0, .int .i64 0, .slice none 0 0, .slice none 0 0] 54) := by
  have hgl := h.own.1.lt g rfl
  have e1 : C ≠ g := row_ne_cells h.own.1 h.con (by decide)
  have e2 : w0.heap.size ≠ g := row_ne_cells h.own.1 h.res (by decide)
  have hcon := (hg.block C (Array.getElem?_eq_some_iff.1 h.con).1 (fun e => e1 (Option.some.inj e))).trans h.con
  refine ⟨?_, hcon⟩
  exact {
    rd := (h.rd.grown hg (fun k hk => by cases hk; have := h.Rw; have := h.Nw; omega)).set (p := ⟨C, 1, none⟩) (by have := h.Rw; have := h.lt; show C ≠ R; omega) (by have := h.Nw; have := h.lt; show N ≤ C; omega) _
    fr := (h.fr.grown hg (fun k hk => by cases hk; exact Or.inr hgl.1)).setNew (p := ⟨C, 1, none⟩) (Nat.le_of_lt h.lt) _
    nm := (h.nm.old (hg.block M h.nm.lt (fun e => by have := Option.some.inj e; have := h.Mw; omega))).old (Below.heap_setCell _ _ _ _ (by have := h.Mw; have := h.lt; show M ≠ C; omega))
    res := (Below.heap_setCell _ _ _ _ (by have := h.lt; show w0.heap.size ≠ C; omega)).trans ((hg.block _ (Array.getElem?_eq_some_iff.1 h.res).1 (fun e => e2 (Option.some.inj e))).trans h.res)
    con := by rw [heap_setCell_same w' C 1 _ _ _ hcon]; rfl
    lt := h.lt
    Rw := h.Rw
    Nw := h.Nw
    Mw := h.Mw
    own := ⟨own_set hown hcon (by decide) 1 v', World.ownsRow_nil _ _ _ _, LSr.none _ _ _, World.ownsRow_nil _ _ _ _⟩ }

set_option maxHeartbeats 1600000 in
set_option maxRecDepth 100000 in
theorem con_8 (N R M : Nat) (en : Int) (names : List ByteArray) (w : World) (l : List Tok) (h : Rd N R M en w l) (hn : NmS w M names) (hne : ∀ n ∈ names, n.data.toList ≠ []) (t1 : Tok) (q1 q2 : List Tok)
    (hs1 : skipP en conW l = .ok t1 q1) (hs2 : oneOfP en conWL q1 = .ok 8 q2) :
    Calls Tryz.prog 72 #[.pointer (some ⟨R, 0, none⟩)] w (PostR (conP en names l) (GC w.heap.size) N R M en (fun k => k = R) w) := by
  have HB : Hid (Rd N R M en w l) := h
  have HN : Hid (NmS w M names) := hn
  have HNE : Hid (∀ n ∈ names, n.data.toList ≠ []) := hne
  have HS1 : Hid (skipP en conW l = .ok t1 q1) := hs1
  have HS2 : Hid (oneOfP en conWL q1 = .ok 8 q2) := hs2
  have hRw : R < w.heap.size := by obtain ⟨_, _, hR, _⟩ := h; exact (Array.getElem?_eq_some_iff.1 hR).1
  obtain ⟨P, hP⟩ : ∃ P, conP en names l = P := ⟨_, rfl⟩
  have HP : Hid (P = ((nameP en names q2).bind fun a l => (readP en (nameP en names) l).bind fun vs l => .ok ⟨8, [a] ++ vs, [], 0, [], []⟩ l).bind fun c l => (skipP en semiW l).bind fun _ l => .ok c l) := by
    show _ = _; rw [← hP]; unfold conP; rw [hs1]; show ((oneOfP en conWL q1).bind _) = _; rw [hs2]; show (bodyP en names 8 q2).bind _ = _; rw [(show bodyP en names 8 q2 = (nameP en names q2).bind fun a l => (readP en (nameP en names) l).bind fun vs l => .ok ⟨8, [a] ++ vs, [], 0, [], []⟩ l by simp [bodyP])]
  rw [hP]
  clear h hP hn hne hs1 hs2
  go_enter Tryz.func72, Tryz.ntmps72
  go_wp2_with fail
  have HR0 := HB.out.below (below_alloc w (.cells #[.int .i64 0, .slice none 0 0, .slice none 0 0, .int .i64 0, .slice none 0 0, .slice none 0 0] 54))
  have HQ0 : (w.alloc (.cells #[.int .i64 0, .slice none 0 0, .slice none 0 0, .int .i64 0, .slice none 0 0, .slice none 0 0] 54)).heap[w.heap.size]? = some (.cells #[.int .i64 0, .slice none 0 0, .slice none 0 0, .int .i64 0, .slice none 0 0, .slice none 0 0] 54) := by show (w.heap.push _)[w.heap.size]? = _; simp
  have HBA := below_alloc w (.cells #[.int .i64 0, .slice none 0 0, .slice none 0 0, .int .i64 0, .slice none 0 0, .slice none 0 0] 54)
  refine (rskip_any N R M en conW solid_con _ l HR0).mono ?_
  intro e w1 hp
  rw [HS1.out] at hp
  obtain ⟨v, rfl, rfl, hrd1, hfr1⟩ := hp
  have HR1 : Hid (Rd N R M en w1 q1) := hrd1
  have HF1 : Hid (Fr (fun k => k = R) w w1) := (Fr.below HBA).trans hfr1
  have HQ1 : Hid (w1.heap[w.heap.size]? = some (.cells #[.int .i64 0, .slice none 0 0, .slice none 0 0, .int .i64 0, .slice none 0 0, .slice none 0 0] 54)) := (hfr1.block _ (by simp) (by omega)).trans HQ0
  clear HR0 HQ0 HBA hrd1 hfr1
  go_wp2_with fail
  refine (words_cons w1).mono ?_
  rintro e w2 ⟨sv, rfl, hsv, hb2⟩
  have HSV : Hid (SArg w2 sv conWL) := hsv
  obtain ⟨as_, cs_, rfl, _, _⟩ := hsv
  have HR2 : Hid (Rd N R M en w2 q1) := HR1.out.below hb2
  have HF2 : Hid (Fr (fun k => k = R) w w2) := HF1.out.trans (Fr.below hb2)
  have HQ2 : Hid (w2.heap[w.heap.size]? = some (.cells #[.int .i64 0, .slice none 0 0, .slice none 0 0, .int .i64 0, .slice none 0 0, .slice none 0 0] 54)) := (hb2.block _ (Array.getElem?_eq_some_iff.1 HQ1.out).1).trans HQ1.out
  clear hb2
  go_wp2_with fail
  refine (oneof_any N R M en conWL _ w2 q1 HR2.out HSV.out).mono ?_
  intro e w3 hp
  rw [HS2.out] at hp
  obtain ⟨v, rfl, rfl, hrd3, hfr3⟩ := hp
  have HS : Hid (ConS N R M en names w w3.heap.size (w3.alloc (.cells #[.int .i64 8, .slice none 0 0, .slice none 0 0, .int .i64 0, .slice none 0 0, .slice none 0 0] 54)) q2 (.slice none 0 0) (.slice none 0 0) (.slice none 0 0) (.slice none 0 0) ⟨8, [], [], 0, [], []⟩) := by
    have hbq := below_alloc w3 (.cells #[.int .i64 8, .slice none 0 0, .slice none 0 0, .int .i64 0, .slice none 0 0, .slice none 0 0] 54)
    have hlt : w.heap.size < w3.heap.size := Nat.lt_of_lt_of_le (Array.getElem?_eq_some_iff.1 HQ2.out).1 hfr3.size
    have hfr := (HF2.out.trans hfr3).trans (Fr.below hbq)
    exact ⟨hrd3.below hbq, hfr, HN.out.old (hfr.block M HN.out.lt HB.out.1.2.2), (hbq.block _ hlt).trans ((hfr3.block _ (Array.getElem?_eq_some_iff.1 HQ2.out).1 (by omega)).trans HQ2.out), by show (w3.heap.push _)[w3.heap.size]? = _; simp, hlt, hRw, HB.out.1.2.1, HN.out.lt, ConR.none _ _ _⟩
  clear hrd3 hfr3 HR1 HR2 HF1 HF2 HQ1 HQ2
  skip
  go_wp2_with fail
  refine (name_any N R M en names _ q2 HS.out.rd HS.out.nm HNE.out).mono ?_
  intro e w4 hp
  cases hs : nameP en names q2 with
  | bad x er =>
    rw [hs] at hp
    obtain ⟨rfl, hfr⟩ := hp
    have hfr2 := HS.out.fr.trans hfr
    have HPB : Hid (P = .bad x er) := by show _ = _; rw [HP.out, hs]; rfl
    clear hs hfr
    go_wp2
    exact ⟨rfl, by rw [HPB.out]; exact ⟨rfl, hfr2⟩⟩
  | ok a q3 =>
    rw [hs] at hp
    obtain ⟨v4, rfl, rfl, hrd, hfr⟩ := hp
    have HT : Hid (ConS N R M en names w w3.heap.size w4 q3 (.slice none 0 0) (.slice none 0 0) (.slice none 0 0) (.slice none 0 0) ⟨8, [], [], 0, [], []⟩) := HS.out.call hfr hrd
    clear HS
    have HS := HT
    clear HT
    have HPN : Hid (P = ((readP en (nameP en names) q3).bind fun vs l => .ok ⟨8, [a] ++ vs, [], 0, [], []⟩ l).bind fun c l => (skipP en semiW l).bind fun _ l => .ok c l) := by show _ = _; rw [HP.out, hs]; rfl
    clear HP
    have HP := HPN
    clear HPN hs hrd hfr
    have r1 := blk9 HS.out.con 1 _ rfl
    have z1 := frz9 HS.out.con 1
    have hCl : w3.heap.size < w4.heap.size := (Array.getElem?_eq_some_iff.1 HS.out.con).1
    have HT : Hid (ConS N R M en names w w3.heap.size ((w4.setCell ⟨w3.heap.size, 1, none⟩ (.slice (some ⟨w4.heap.size, 0, none⟩) 1 1)).alloc (.cells #[.int .i64 a] 3)) q3 (.slice (some ⟨w4.heap.size, 0, none⟩) 1 1) (.slice none 0 0) (.slice none 0 0) (.slice none 0 0) ⟨8, [a], [], 0, [], []⟩) := HS.out.varsLit [a] (by simp)
    clear HS
    have HS := HT
    clear HT
    go_wp2_with fail
    obtain ⟨W, hW⟩ : ∃ W, ((w4.setCell ⟨w3.heap.size, 1, none⟩ (.slice (some ⟨w4.heap.size, 0, none⟩) 1 1)).alloc (.cells #[.int .i64 a] 3)) = W := ⟨_, rfl⟩
    rw [hW] at HS ⊢
    have c1 : W.cell? ⟨w3.heap.size, 1, none⟩ = some (.slice (some ⟨w4.heap.size, 0, none⟩) 1 1) := blk9 HS.out.con 1 _ rfl
    clear hW r1 z1
    have HSD : Hid (ConS N R M en names w w3.heap.size W.drew q3 (.slice (some ⟨w4.heap.size, 0, none⟩) 1 1) (.slice none 0 0) (.slice none 0 0) (.slice none 0 0) ⟨8, [a], [], 0, [], []⟩) := HS.out.below (Below.refl _ _).drew
    have hvar := variables_any N R M en names W.drew q3 HSD.out.rd HSD.out.nm HNE.out
    cases hs : readP en (nameP en names) q3 with
    | bad x er =>
      have HPB : Hid (P = .bad x er) := by show _ = _; rw [HP.out, hs]; rfl
      rw [hs] at hvar
      clear hs
      refine wp_region_held_drew (S := fun w' => w' = W.drew) (by kernel_rfl) rfl (fun hHeld => ?_)
      refine wpAnyH_take (i := 0) (v := ?v0) rfl (by kernel_rfl) (by kernel_rfl) (by kernel_rfl) (fun _ _ _ h => h) (Or.inl ⟨by rfl, ?y0⟩) rfl ?r0
      case y0 => intro wq hSw; subst hSw; go_simp; with_reducible rfl
      refine wpAnyH_take (i := 1) (v := ?v1) rfl (by kernel_rfl) (by kernel_rfl) (by kernel_rfl) (fun _ _ _ h => h) (Or.inl ⟨by rfl, ?y1⟩) rfl ?r1
      case y1 => intro wq hSw; subst hSw; go_simp; with_reducible rfl
      refine wpAnyH_take (i := 2) (v := ?v2) rfl (by kernel_rfl) (by kernel_rfl) (by kernel_rfl) (fun _ _ _ h => h) (Or.inl ⟨by rfl, ?y2⟩) rfl ?r2
      case y2 => intro wq hSw; subst hSw; go_simp; with_reducible rfl
      refine wpAnyH_ready (rs := [3]) (by kernel_rfl) (by simp) ?_
      refine AllReadyH.cons rfl (fun K hK => ?_) AllReadyH.nil
      clear hK
      go_simp
      refine hvar.mono ?_
      rintro e w5 ⟨rfl, hfr⟩
      have hfr2 := HSD.out.fr.trans hfr
      clear hvar hfr
      go_wp2
      exact ⟨rfl, by rw [HPB.out]; exact ⟨rfl, hfr2⟩⟩
    | ok vs q4 =>
      have HPN : Hid (P = (skipP en semiW q4).bind fun _ l => .ok ⟨8, [a] ++ vs, [], 0, [], []⟩ l) := by show _ = _; rw [HP.out, hs]; rfl
      rw [hs] at hvar
      have HVL : Hid (vs.length ≤ 4000) := by have h1 := reads_len (eats_name en names) hs; have h2 := HS.out.rd.len; show _ ≤ _; omega
      clear hs HP
      obtain ⟨vn, hvn⟩ : ∃ vn, [a] ++ vs = vn := ⟨_, rfl⟩
      have HVN : Hid ([a] ++ vs = vn) := hvn
      rw [hvn] at HPN
      clear hvn
      go_region_law
        (first
          | (rw [if_pos (by rfl)]; refine wp_append_rows9 _ _ rfl w.heap.size _ [a] rfl HT.own.1 _ vs rfl _ ho5 ?_ ?_ ?_; (have := HVL.out; simp; omega); exact HT.base; intro v6 w6 hown6 hg6; have HU := HT.append8 hown6 hg6; rw [HVN.out] at hown6 HU; have d1 := blk9 HU.2 1 _ rfl; have z1 := frz9 HU.2 1; obtain ⟨a6, b6, hv6⟩ := own_form hown6; subst hv6)
          | (rw [if_pos (by rfl)]; go_simp; go_at_call 100; refine hvar.mono ?_; rintro e w5 ⟨v5, rfl, ⟨ho5, _⟩, hrd5, hfr5⟩; have HT := HSD.out.call hfr5 hrd5; have c5 := blk9 HT.con 1 _ rfl; obtain ⟨a5, d5, hv5⟩ := own_form ho5; subst hv5; dsimp only))
      all_goals
        have HSN : Hid (ConS N R M en names w w3.heap.size (w6.setCell ⟨w3.heap.size, 1, none⟩ (.slice a6 vn.length b6)) q4 (.slice a6 vn.length b6) (.slice none 0 0) (.slice none 0 0) (.slice none 0 0) ⟨8, vn, [], 0, [], []⟩) := HU.1
        clear HS HT HU hg6 d1 z1 hown6 hvar c5 ho5 HSD HVL hrd5 hfr5 c1 HVN
        go_wp2_with fail
        refine (rskip_any N R M en semiW solid_semi _ q4 HSN.out.rd).mono ?_
        intro e w7 hp
        cases hs : skipP en semiW q4 with
        | bad x er =>
          rw [hs] at hp
          obtain ⟨rfl, hfr⟩ := hp
          have hfr2 := HSN.out.fr.trans hfr
          have HPB : Hid (P = .bad x er) := by show _ = _; rw [HPN.out, hs]; rfl
          clear hs hfr
          go_wp2
          exact ⟨rfl, by rw [HPB.out]; exact ⟨rfl, hfr2⟩⟩
        | ok t9 q9 =>
          rw [hs] at hp
          obtain ⟨v, rfl, rfl, hrd, hfr⟩ := hp
          have HT : Hid (ConS N R M en names w w3.heap.size w7 q9 (.slice a6 vn.length b6) (.slice none 0 0) (.slice none 0 0) (.slice none 0 0) ⟨8, vn, [], 0, [], []⟩) := HSN.out.call hfr hrd
          have HPE : Hid (P = .ok ⟨8, vn, [], 0, [], []⟩ q9) := by show _ = _; rw [HPN.out, hs]; rfl
          clear HPN HSN hs hrd hfr
          have a0 := blk9 HT.out.con 0 _ rfl
          have a1 := blk9 HT.out.con 1 _ rfl
          have a2 := blk9 HT.out.con 2 _ rfl
          have a3 := blk9 HT.out.con 3 _ rfl
          have a4 := blk9 HT.out.con 4 _ rfl
          have a5 := blk9 HT.out.con 5 _ rfl
          have b0 := blk9 HT.out.res 0 _ rfl
          have b1 := blk9 HT.out.res 1 _ rfl
          have b2 := blk9 HT.out.res 2 _ rfl
          have b3 := blk9 HT.out.res 3 _ rfl
          have b4 := blk9 HT.out.res 4 _ rfl
          have b5 := blk9 HT.out.res 5 _ rfl
          have z0 := frz9 HT.out.res 0
          have z1 := frz9 HT.out.res 1
          have z2 := frz9 HT.out.res 2
          have z3 := frz9 HT.out.res 3
          have z4 := frz9 HT.out.res 4
          have z5 := frz9 HT.out.res 5
          go_wp2
          refine bodyPost_ret (by simp [results, Tryz.results72, go_sem, *]; try rfl) rfl ?_
          rw [HPE.out]
          obtain ⟨e1, e2, e3⟩ := HT.out.endd _ _ _ _ _ _ _ rfl
          exact ⟨_, rfl, ⟨_, _, _, _, rfl, e1⟩, e2, e3⟩
end Go.Proofs.YtdjbejlbmaiocabGreatDoor
/-
  WALK: package text: the reader: con, whatever kind.
-/
namespace Go.Proofs.YtdjbejlbmaiocabGreatDoor
open Go.RowKit

set_option maxHeartbeats 1600000 in
set_option maxRecDepth 100000 in
theorem rcon_any (N R M : Nat) (en : Int) (names : List ByteArray) (w : World) (l : List Tok) (h : Rd N R M en w l) (hn : NmS w M names) (hne : ∀ n ∈ names, n.data.toList ≠ []) :
    Calls Tryz.prog 72 #[.pointer (some ⟨R, 0, none⟩)] w (PostR (conP en names l) (GC w.heap.size) N R M en (fun k => k = R) w) := by
  cases hs1 : skipP en conW l with
  | bad x er =>
    have HPB : Hid (conP en names l = .bad x er) := by show _ = _; unfold conP; rw [hs1]; rfl
    have HB : Hid (Rd N R M en w l) := h
    have HS1 : Hid (skipP en conW l = .bad x er) := hs1
    rw [HPB.out]
    clear h hn hne hs1
    go_enter Tryz.func72, Tryz.ntmps72
    go_wp2_with fail
    have HR0 := HB.out.below (below_alloc w (.cells #[.int .i64 0, .slice none 0 0, .slice none 0 0, .int .i64 0, .slice none 0 0, .slice none 0 0] 54))
    refine (rskip_any N R M en conW solid_con _ l HR0).mono ?_
    intro e w1 hp
    rw [HS1.out] at hp
    obtain ⟨rfl, hfr⟩ := hp
    have hfr2 := (Fr.below (X := fun k => k = R) (below_alloc w (.cells #[.int .i64 0, .slice none 0 0, .slice none 0 0, .int .i64 0, .slice none 0 0, .slice none 0 0] 54))).trans hfr
    clear hfr HR0
    go_wp2
    exact ⟨rfl, rfl, hfr2⟩
  | ok t1 q1 =>
    cases hs2 : oneOfP en conWL q1 with
    | bad x er =>
      have HPB : Hid (conP en names l = .bad x er) := by show _ = _; unfold conP; rw [hs1]; show ((oneOfP en conWL q1).bind _) = _; rw [hs2]; rfl
      have HB : Hid (Rd N R M en w l) := h
      have HS1 : Hid (skipP en conW l = .ok t1 q1) := hs1
      have HS2 : Hid (oneOfP en conWL q1 = .bad x er) := hs2
      rw [HPB.out]
      clear h hn hne hs1 hs2
      go_enter Tryz.func72, Tryz.ntmps72
      go_wp2_with fail
      have HR0 := HB.out.below (below_alloc w (.cells #[.int .i64 0, .slice none 0 0, .slice none 0 0, .int .i64 0, .slice none 0 0, .slice none 0 0] 54))
      refine (rskip_any N R M en conW solid_con _ l HR0).mono ?_
      intro e w1 hp
      rw [HS1.out] at hp
      obtain ⟨v, rfl, rfl, hrd, hfr⟩ := hp
      have HR1 : Hid (Rd N R M en w1 q1) := hrd
      have HF1 : Hid (Fr (fun k => k = R) w w1) := (Fr.below (X := fun k => k = R) (below_alloc w (.cells #[.int .i64 0, .slice none 0 0, .slice none 0 0, .int .i64 0, .slice none 0 0, .slice none 0 0] 54))).trans hfr
      clear hfr hrd HR0
      go_wp2_with fail
      refine (words_cons w1).mono ?_
      rintro e w2 ⟨sv, rfl, hsv, hb2⟩
      have HSV : Hid (SArg w2 sv conWL) := hsv
      obtain ⟨as_, cs_, rfl, _, _⟩ := hsv
      have HR2 : Hid (Rd N R M en w2 q1) := HR1.out.below hb2
      have HF2 : Hid (Fr (fun k => k = R) w w2) := HF1.out.trans (Fr.below hb2)
      clear hb2
      go_wp2_with fail
      refine (oneof_any N R M en conWL _ w2 q1 HR2.out HSV.out).mono ?_
      intro e w3 hp
      rw [HS2.out] at hp
      obtain ⟨rfl, hfr⟩ := hp
      have hfr2 := HF2.out.trans hfr
      clear hfr
      go_wp2
      exact ⟨rfl, rfl, hfr2⟩
    | ok k q2 =>
      by_cases k1 : k = 1
      · subst k1; exact con_1 N R M en names w l h hn hne t1 q1 q2 hs1 hs2
      by_cases k2 : k = 2
      · subst k2; exact con_2 N R M en names w l h hn hne t1 q1 q2 hs1 hs2
      by_cases k3 : k = 3
      · subst k3; exact con_3 N R M en names w l h hn hne t1 q1 q2 hs1 hs2
      by_cases k4 : k = 4
      · subst k4; exact con_4 N R M en names w l h hn hne t1 q1 q2 hs1 hs2
      by_cases k5 : k = 5
      · subst k5; exact con_5 N R M en names w l h hn hne t1 q1 q2 hs1 hs2
      by_cases k6 : k = 6
      · subst k6; exact con_6 N R M en names w l h hn hne t1 q1 q2 hs1 hs2
      by_cases k7 : k = 7
      · subst k7; exact con_7 N R M en names w l h hn hne t1 q1 q2 hs1 hs2
      by_cases k8 : k = 8
      · subst k8; exact con_8 N R M en names w l h hn hne t1 q1 q2 hs1 hs2
      by_cases k9 : k = 9
      · subst k9; exact con_9 N R M en names w l h hn hne t1 q1 q2 hs1 hs2
      by_cases k10 : k = 10
      · subst k10; exact con_10 N R M en names w l h hn hne t1 q1 q2 hs1 hs2
      have f : ∀ i : Int, ¬ k = i → (k == i) = false := fun i h => by simpa using h
      exact con_other N R M en names w l h hn hne t1 q1 q2 k ⟨f _ k1, f _ k2, f _ k3, f _ k4, f _ k5, f _ k6, f _ k7, f _ k8, f _ k9, f _ k10⟩ hs1 hs2
end Go.Proofs.YtdjbejlbmaiocabGreatDoor
/-
  A model that is being read, in memory.
-/
namespace Go.Proofs.YtdjbejlbmaiocabGreatDoor
open Go.RowKit

def varC (v : MVar) : List Value := [.string v.name, .int .i64 v.lo, .int .i64 v.hi]
def conC (vv vc vr vl : Value) (c : MCon) : List Value := [.int .i64 c.kind, vv, vc, .int .i64 c.n, vr, vl]
theorem apart9 {w : World} {b1 b2 n1 n2 s1 s2 : Nat} {e1 e2 : TypeId} {x v : Value} {xs vs : List Value} (h : w.ownsRow b1 e1 s1 x n1 xs) (k : w.ownsRow b2 e2 s2 v n2 vs) (he : e1 ≠ e2) : x.ownBlock = none ∨ x.ownBlock ≠ v.ownBlock := by
  rcases h.2 with ⟨rfl, _⟩ | ⟨g, cap, cur, rfl, _, hg, _⟩
  · exact .inl rfl
  · refine .inr fun e => ?_
    rcases k.2 with ⟨rfl, _⟩ | ⟨g', cap', cur', rfl, _, hg', _⟩
    · cases e
    · have : g = g' := Option.some.inj e
      subst this
      rw [hg] at hg'
      injection hg' with h2
      injection h2 with _ h3
      exact he h3
section
variable {B : Nat} {w w' : World}
theorem LSr.kept {b2 n s : Nat} {e : TypeId} {v x : Value} {xs : List Value} {acc : List (List Int)} {o : Obj} (h : LSr B B w x acc) (k : w.ownsRow b2 e s v n xs) (he1 : 3 ≠ e) (he2 : 50 ≠ e) (hg : (w.alloc o).grownBy w' v.ownBlock) : LSr B B w' x acc := by
  obtain ⟨cells, h1, h2⟩ := h
  refine ⟨cells, (h1.alloc _).kept hg (apart9 h1 k he2), fun i r hr => ?_⟩
  obtain ⟨y, hy, ho⟩ := h2 i r hr
  exact ⟨y, hy, (ho.alloc _).kept hg (apart9 ho k he1)⟩
theorem ConR.kept {b2 n s : Nat} {e : TypeId} {v : Value} {xs : List Value} {vv vc vr vl : Value} {c : MCon} {o : Obj} (h : ConR B w vv vc vr vl c) (k : w.ownsRow b2 e s v n xs) (he1 : 3 ≠ e) (he2 : 50 ≠ e) (he3 : 76 ≠ e) (hg : (w.alloc o).grownBy w' v.ownBlock) : ConR B w' vv vc vr vl c :=
  ⟨(h.1.alloc _).kept hg (apart9 h.1 k he1), (h.2.1.alloc _).kept hg (apart9 h.2.1 k he1), h.2.2.1.kept k he1 he2 hg, (h.2.2.2.alloc _).kept hg (apart9 h.2.2.2 k he3)⟩
end
/-- Constraints that are being gathered. -/
def LCr (B : Nat) (w : World) (v : Value) (acc : List MCon) : Prop :=
  ∃ cells, w.ownsRow B 54 6 v acc.length cells ∧ ∀ (i : Nat) (c : MCon), acc[i]? = some c → ∃ vv vc vr vl, (∀ j, j < 6 → cells[i * 6 + j]? = (conC vv vc vr vl c)[j]?) ∧ ConR B w vv vc vr vl c
theorem LCr.none (B : Nat) (w : World) : LCr B w (.slice Option.none 0 0) [] := ⟨[], World.ownsRow_nil _ _ _ _, fun i r h => by simp at h⟩
theorem LCr.form {B : Nat} {w : World} {v : Value} {acc : List MCon} (h : LCr B w v acc) : ∃ a c, v = .slice a acc.length c := by
  obtain ⟨cells, h1, _⟩ := h
  exact own_form h1
theorem LCr.fr {X : Nat → Prop} {B : Nat} {w w' : World} {v : Value} {acc : List MCon} (h : LCr B w v acc) (hf : Fr X w w') (hX : ∀ k, X k → k < B) : LCr B w' v acc := by
  obtain ⟨cells, h1, h2⟩ := h
  refine ⟨cells, own_fr h1 hf hX, fun i r hr => ?_⟩
  obtain ⟨vv, vc, vr, vl, hc, ho⟩ := h2 i r hr
  exact ⟨vv, vc, vr, vl, hc, ho.fr hf hX⟩
theorem ConR.set2 {B : Nat} {w : World} {vv vc vr vl : Value} {c : MCon} {t : TypeId} (h : ConR B w vv vc vr vl c) {C : Nat} {cs : Array Value} (hC : w.heap[C]? = some (.cells cs t)) (h1 : t ≠ 3) (h2 : t ≠ 50) (h3 : t ≠ 76) (i : Nat) (u : Value) : ConR B (w.setCell ⟨C, i, Option.none⟩ u) vv vc vr vl c :=
  ⟨own_set h.1 hC h1 i u, own_set h.2.1 hC h1 i u, h.2.2.1.set hC h1 h2 i u, own_set h.2.2.2 hC h3 i u⟩
theorem LCr.set {B : Nat} {w : World} {v : Value} {acc : List MCon} (h : LCr B w v acc) {C : Nat} {cs : Array Value} (hC : w.heap[C]? = some (.cells cs 25)) (i : Nat) (u : Value) : LCr B (w.setCell ⟨C, i, Option.none⟩ u) v acc := by
  obtain ⟨cells, h1, h2⟩ := h
  refine ⟨cells, own_set h1 hC (by decide) i u, fun j r hr => ?_⟩
  obtain ⟨vv, vc, vr, vl, hc, ho⟩ := h2 j r hr
  exact ⟨vv, vc, vr, vl, hc, ho.set2 hC (by decide) (by decide) (by decide) i u⟩
theorem LCr.push {B : Nat} {w w' : World} {v v' vv vc vr vl : Value} {c : MCon} {acc : List MCon} {cells : List Value} {o : Obj} (h : w.ownsRow B 54 6 v acc.length cells)
    (hc : ∀ (i : Nat) (c : MCon), acc[i]? = some c → ∃ vv vc vr vl, (∀ j, j < 6 → cells[i * 6 + j]? = (conC vv vc vr vl c)[j]?) ∧ ConR B w vv vc vr vl c) (hx : ConR B w vv vc vr vl c)
    (h' : w'.ownsRow B 54 6 v' (acc.length + 1) (cells ++ conC vv vc vr vl c)) (hg : (w.alloc o).grownBy w' v.ownBlock) : LCr B w' v' (acc ++ [c]) := by
  have hlen : cells.length = acc.length * 6 := h.1
  refine ⟨cells ++ conC vv vc vr vl c, by rw [List.length_append]; exact h', fun i r hr => ?_⟩
  by_cases hi : i < acc.length
  · rw [List.getElem?_append_left hi] at hr
    obtain ⟨x1, x2, x3, x4, hy, ho⟩ := hc i r hr
    exact ⟨x1, x2, x3, x4, fun j hj => by rw [List.getElem?_append_left (by omega)]; exact hy j hj, ho.kept h (by decide) (by decide) (by decide) hg⟩
  · rw [List.getElem?_append_right (by omega)] at hr
    have hi0 : i - acc.length = 0 := by
      have := (List.getElem?_eq_some_iff.1 hr).1
      simp at this; omega
    rw [hi0] at hr
    cases hr
    refine ⟨vv, vc, vr, vl, fun j hj => ?_, hx.kept h (by decide) (by decide) (by decide) hg⟩
    rw [List.getElem?_append_right (by omega), show i * 6 + j - cells.length = j by omega]
/-- What is so while a model is read. -/
structure ModSt (N R M : Nat) (en : Int) (w0 w : World) (q : List Tok) (names : List ByteArray) (vs cs : Value) (vars : List MVar) (cons : List MCon) : Prop where
  rd : Rd N R M en w q
  fr : Fr (XRM R M) w0 w
  nm : NmS w M names
  res : w.heap[w0.heap.size]? = some (.cells #[.slice none 0 0, .slice none 0 0, .int .i64 0, .int .i64 0] 25)
  mod : w.heap[w0.heap.size + 1]? = some (.cells #[vs, cs, .int .i64 0, .int .i64 0] 25)
  Rw : R < w0.heap.size
  Nw : N ≤ w0.heap.size
  Mw : M < w0.heap.size
  NM : N ≤ M
  vown : w.ownsRow w0.heap.size 47 3 vs vars.length (vars.flatMap varC)
  cown : LCr w0.heap.size w cs cons
section
variable {N R M : Nat} {en : Int} {names names' : List ByteArray} {w0 : World} {w w' : World} {q q' : List Tok} {vs cs v' : Value} {vars : List MVar} {cons : List MCon}
theorem ModSt.xlt (h : ModSt N R M en w0 w q names vs cs vars cons) : ∀ k, XRM R M k → k < w0.heap.size := fun k hk => by
  have h1 := h.Rw
  have h2 := h.Mw
  rcases hk with rfl | rfl <;> omega
theorem ModSt.call (h : ModSt N R M en w0 w q names vs cs vars cons) (hf : Fr (XRM R M) w w') (hrd : Rd N R M en w' q') (hnm : NmS w' M names') : ModSt N R M en w0 w' q' names' vs cs vars cons where
  rd := hrd
  fr := h.fr.trans hf
  nm := hnm
  res := (hf.block _ (Array.getElem?_eq_some_iff.1 h.res).1 (fun hx => by have := h.xlt _ hx; omega)).trans h.res
  mod := (hf.block _ (Array.getElem?_eq_some_iff.1 h.mod).1 (fun hx => by have := h.xlt _ hx; omega)).trans h.mod
  Rw := h.Rw
  Nw := h.Nw
  Mw := h.Mw
  NM := h.NM
  vown := own_fr h.vown hf h.xlt
  cown := h.cown.fr hf h.xlt
theorem ModSt.callR (h : ModSt N R M en w0 w q names vs cs vars cons) (hf : Fr (fun k => k = R) w w') (hrd : Rd N R M en w' q') : ModSt N R M en w0 w' q' names vs cs vars cons :=
  h.call hf.toRM hrd (h.nm.old (hf.block M h.nm.lt hrd.1.2.2))
theorem ModSt.below (h : ModSt N R M en w0 w q names vs cs vars cons) (hb : Below w.heap.size w w') : ModSt N R M en w0 w' q names vs cs vars cons := h.callR (Fr.below hb) (h.rd.below hb)
theorem ModSt.base (h : ModSt N R M en w0 w q names vs cs vars cons) : w0.heap.size ≤ w.heap.size := h.fr.size
theorem flat_snoc {α : Type} (f : α → List Value) (l : List α) (x : α) : (l ++ [x]).flatMap f = l.flatMap f ++ f x := by simp
/-- A row of the model's has grown; its new value is stored. -/
theorem ModSt.grown (h : ModSt N R M en w0 w q names vs cs vars cons) {v : Value} {n s : Nat} {e : TypeId} {xs : List Value} {o : Obj} (hv : w.ownsRow w0.heap.size e s v n xs) (he : 25 ≠ e) (hg : (w.alloc o).grownBy w' v.ownBlock) (i : Nat) (vs2 cs2 : Value) (vars2 : List MVar) (cons2 : List MCon)
    (hcs : (#[vs, cs, .int .i64 0, .int .i64 0] : Array Value).setIfInBounds i v' = #[vs2, cs2, .int .i64 0, .int .i64 0])
    (ho1 : w'.ownsRow w0.heap.size 47 3 vs2 vars2.length (vars2.flatMap varC)) (ho2 : LCr w0.heap.size w' cs2 cons2) :
    w'.heap[w0.heap.size + 1]? = some (.cells #[vs, cs, .int .i64 0, .int .i64 0] 25) ∧ ModSt N R M en w0 (w'.setCell ⟨w0.heap.size + 1, i, none⟩ v') q names vs2 cs2 vars2 cons2 := by
  have hlt : ∀ g, v.ownBlock = some g → w0.heap.size ≤ g ∧ g < w.heap.size := hv.lt
  have hap : ∀ (C : Nat) (cs : Array Value), w.heap[C]? = some (.cells cs 25) → some C ≠ v.ownBlock := by
    intro C cs hC e1
    rcases hv.2 with ⟨rfl, _⟩ | ⟨g, cap, cur, rfl, _, hh, _⟩
    · cases e1
    · have : C = g := Option.some.inj e1
      subst this
      rw [hh] at hC
      injection hC with h2
      injection h2 with _ h3
      exact he h3.symm
  have hlo : ∀ k, k < w0.heap.size → some k ≠ v.ownBlock := fun k hk e1 => by have := (hlt k e1.symm).1; omega
  have hkeep : ∀ k, k < w.heap.size → some k ≠ v.ownBlock → w'.heap[k]? = w.heap[k]? := fun k hk hne => (hg.block k (by simp; omega) hne).trans ((below_alloc w o).block k hk)
  have hres := (hkeep _ (Array.getElem?_eq_some_iff.1 h.res).1 (hap _ _ h.res)).trans h.res
  have hmod := (hkeep _ (Array.getElem?_eq_some_iff.1 h.mod).1 (hap _ _ h.mod)).trans h.mod
  have hRw := h.Rw
  have hMw := h.Mw
  have hNw := h.Nw
  have hsz := h.base
  refine ⟨hmod, ?_⟩
  exact {
    rd := ((h.rd.below (below_alloc w o)).grown hg (fun k hk => by have := (hlt k hk).1; omega)).set (p := ⟨w0.heap.size + 1, i, none⟩) (by show w0.heap.size + 1 ≠ R; omega) (by show N ≤ w0.heap.size + 1; omega) _
    fr := ((h.fr.alloc o).grown hg (fun k hk => Or.inr (hlt k hk).1)).setNew (p := ⟨w0.heap.size + 1, i, none⟩) (by show w0.heap.size ≤ w0.heap.size + 1; omega) _
    nm := (h.nm.old (hkeep M h.nm.lt (hlo M h.Mw))).old (Below.heap_setCell _ _ _ _ (by show M ≠ w0.heap.size + 1; omega))
    res := (Below.heap_setCell _ _ _ _ (by show w0.heap.size ≠ w0.heap.size + 1; omega)).trans hres
    mod := by rw [heap_setCell_same w' (w0.heap.size + 1) i _ _ _ hmod, hcs]
    Rw := h.Rw
    Nw := h.Nw
    Mw := h.Mw
    NM := h.NM
    vown := own_set ho1 hmod (by decide) i v'
    cown := ho2.set hmod i v' }
theorem ModSt.pushVar (h : ModSt N R M en w0 w q names vs (.slice none 0 0) vars []) (x : MVar) {o : Obj} (hg : (w.alloc o).grownBy w' vs.ownBlock)
    (ho : w'.ownsRow w0.heap.size 47 3 v' (vars.length + 1) (vars.flatMap varC ++ varC x)) :
    w'.heap[w0.heap.size + 1]? = some (.cells #[vs, .slice none 0 0, .int .i64 0, .int .i64 0] 25) ∧ ModSt N R M en w0 (w'.setCell ⟨w0.heap.size + 1, 0, none⟩ v') q names v' (.slice none 0 0) (vars ++ [x]) [] :=
  h.grown h.vown (by decide) hg 0 v' (.slice none 0 0) (vars ++ [x]) [] rfl (by rw [flat_snoc, List.length_append]; exact ho) (LCr.none _ _)
theorem ModSt.pushCon (h : ModSt N R M en w0 w q names vs cs vars cons) {vv vc vr vl : Value} {c : MCon} (hc : ConR w0.heap.size w vv vc vr vl c) {cells : List Value} (hw : w.ownsRow w0.heap.size 54 6 cs cons.length cells)
    (hcells : ∀ (i : Nat) (c : MCon), cons[i]? = some c → ∃ vv vc vr vl, (∀ j, j < 6 → cells[i * 6 + j]? = (conC vv vc vr vl c)[j]?) ∧ ConR w0.heap.size w vv vc vr vl c) {o : Obj} (hg : (w.alloc o).grownBy w' cs.ownBlock)
    (ho : w'.ownsRow w0.heap.size 54 6 v' (cons.length + 1) (cells ++ conC vv vc vr vl c)) :
    w'.heap[w0.heap.size + 1]? = some (.cells #[vs, cs, .int .i64 0, .int .i64 0] 25) ∧ ModSt N R M en w0 (w'.setCell ⟨w0.heap.size + 1, 1, none⟩ v') q names vs v' vars (cons ++ [c]) :=
  h.grown hw (by decide) hg 1 vs v' vars (cons ++ [c]) rfl ((h.vown.alloc _).kept hg (apart9 h.vown hw (by decide))) (LCr.push hw hcells hc ho hg)
end
end Go.Proofs.YtdjbejlbmaiocabGreatDoor
/-
  A constraint that the reference reads, in memory.
-/
namespace Go.Proofs.YtdjbejlbmaiocabGreatDoor
open Go.RowKit

/-- What is so while the reference reads a constraint. -/
structure ConT (c : RC) (w0 w : World) (p : RP) (vv vc vr vl : Value) (k : MCon) : Prop where
  st : RSt c p w
  fr : Fr (XR9 c.R) w0 w
  res : w.heap[w0.heap.size]? = some (.cells #[.int .i64 0, .slice none 0 0, .slice none 0 0, .int .i64 0, .slice none 0 0, .slice none 0 0] 54)
  con : w.heap[w0.heap.size + 1]? = some (.cells #[.int .i64 k.kind, vv, vc, .int .i64 k.n, vr, vl] 54)
  Rw : c.R < w0.heap.size
  Nw : c.N ≤ w0.heap.size
  NBw : c.NB ≤ w0.heap.size
  own : ConR w0.heap.size w vv vc vr vl k
section
variable {c : RC} {w0 w w' : World} {p p' : RP} {vv vc vr vl : Value} {k : MCon}
theorem ConT.call (h : ConT c w0 w p vv vc vr vl k) (hf : Fr (XR9 c.R) w w') (hst : RSt c p' w') : ConT c w0 w' p' vv vc vr vl k where
  st := hst
  fr := h.fr.trans hf
  res := (hf.block _ (Array.getElem?_eq_some_iff.1 h.res).1 (by have := h.Rw; show ¬ _ = _; omega)).trans h.res
  con := (hf.block _ (Array.getElem?_eq_some_iff.1 h.con).1 (by have := h.Rw; show ¬ _ = _; omega)).trans h.con
  Rw := h.Rw
  Nw := h.Nw
  NBw := h.NBw
  own := h.own.fr hf (fun j hj => by have h1 : j = c.R := hj; rw [h1]; exact h.Rw)
theorem ConT.below (h : ConT c w0 w p vv vc vr vl k) (hb : Below w.heap.size w w') : ConT c w0 w' p vv vc vr vl k := h.call (Fr.below hb) (h.st.below hb)
theorem ConT.base (h : ConT c w0 w p vv vc vr vl k) : w0.heap.size ≤ w.heap.size := h.fr.size
theorem ConT.put (h : ConT c w0 w p vv vc vr vl k) (i : Nat) (u : Value) (vv' vc' vr' vl' : Value) (k' : MCon) (hcs : (#[.int .i64 k.kind, vv, vc, .int .i64 k.n, vr, vl] : Array Value).setIfInBounds i u = #[.int .i64 k'.kind, vv', vc', .int .i64 k'.n, vr', vl'])
    (ho : ConR w0.heap.size w vv' vc' vr' vl' k') : ConT c w0 (w.setCell ⟨w0.heap.size + 1, i, none⟩ u) p vv' vc' vr' vl' k' where
  st := h.st.set (q := ⟨w0.heap.size + 1, i, none⟩) (by have := h.Rw; show w0.heap.size + 1 ≠ c.R; omega) (by have := h.Nw; show c.N ≤ w0.heap.size + 1; omega) (by have := h.NBw; show c.NB ≤ w0.heap.size + 1; omega) u
  fr := h.fr.setNew (p := ⟨w0.heap.size + 1, i, none⟩) (by show w0.heap.size ≤ w0.heap.size + 1; omega) u
  res := (Below.heap_setCell _ _ _ _ (by show w0.heap.size ≠ w0.heap.size + 1; omega)).trans h.res
  con := by rw [heap_setCell_same w _ i _ _ _ h.con, hcs]
  Rw := h.Rw
  Nw := h.Nw
  NBw := h.NBw
  own := ho.set h.con i u
theorem ConT.kind (h : ConT c w0 w p vv vc vr vl k) (n : Int) : ConT c w0 (w.setCell ⟨w0.heap.size + 1, 0, none⟩ (.int .i64 n)) p vv vc vr vl { k with kind := n } :=
  h.put 0 _ vv vc vr vl { k with kind := n } rfl h.own
theorem ConT.vars (h : ConT c w0 w p vv vc vr vl k) {v : Value} {xs : List Int} (ho : w.ownsRow w0.heap.size 3 1 v xs.length (xs.map (Value.int .i64))) : ConT c w0 (w.setCell ⟨w0.heap.size + 1, 1, none⟩ v) p v vc vr vl { k with vars := xs } :=
  h.put 1 v v vc vr vl { k with vars := xs } rfl ⟨ho, h.own.2.1, h.own.2.2.1, h.own.2.2.2⟩
theorem ConT.consts (h : ConT c w0 w p vv vc vr vl k) {v : Value} {xs : List Int} (ho : w.ownsRow w0.heap.size 3 1 v xs.length (xs.map (Value.int .i64))) : ConT c w0 (w.setCell ⟨w0.heap.size + 1, 2, none⟩ v) p vv v vr vl { k with consts := xs } :=
  h.put 2 v vv v vr vl { k with consts := xs } rfl ⟨h.own.1, ho, h.own.2.2.1, h.own.2.2.2⟩
theorem ConT.n (h : ConT c w0 w p vv vc vr vl k) (n : Int) : ConT c w0 (w.setCell ⟨w0.heap.size + 1, 3, none⟩ (.int .i64 n)) p vv vc vr vl { k with n := n } :=
  h.put 3 _ vv vc vr vl { k with n := n } rfl h.own
theorem ConT.rows (h : ConT c w0 w p vv vc vr vl k) {v : Value} {xs : List (List Int)} (ho : LSr w0.heap.size w0.heap.size w v xs) : ConT c w0 (w.setCell ⟨w0.heap.size + 1, 4, none⟩ v) p vv vc v vl { k with rows := xs } :=
  h.put 4 v vv vc v vl { k with rows := xs } rfl ⟨h.own.1, h.own.2.1, ho, h.own.2.2.2⟩
theorem ConT.lits (h : ConT c w0 w p vv vc vr vl k) {v : Value} {xs : List MLit} (ho : w.ownsRow w0.heap.size 76 3 v xs.length (xs.flatMap litC)) : ConT c w0 (w.setCell ⟨w0.heap.size + 1, 5, none⟩ v) p vv vc vr v { k with lits := xs } :=
  h.put 5 v vv vc vr v { k with lits := xs } rfl ⟨h.own.1, h.own.2.1, h.own.2.2.1, ho⟩
theorem ConT.varsLit (h : ConT c w0 w p vv vc vr vl k) (xs : List Int) (hx : xs.length ≤ 100) : ConT c w0 ((w.setCell ⟨w0.heap.size + 1, 1, none⟩ (.slice (some ⟨w.heap.size, 0, none⟩) xs.length xs.length)).alloc (.cells (xs.map (Value.int .i64)).toArray 3)) p (.slice (some ⟨w.heap.size, 0, none⟩) xs.length xs.length) vc vr vl { k with vars := xs } := by
  rw [← World.setCell_alloc_past _ _ _ _ (Array.getElem?_eq_some_iff.1 h.con).1]
  refine (h.below (below_alloc _ _)).vars ?_
  have := World.ownsRow_lit (e := 3) (size := 1) w (xs.map (Value.int .i64)).toArray xs.length h.base (by unfold maxLen; omega) (by simp)
  simpa using this
/-- A row of another type, or none of its own, has grown. -/
theorem ConT.grown {v : Value} {e : TypeId} {s n : Nat} {xs : List Value} {o : Obj} (h : ConT c w0 w p vv vc vr vl k) (hv : w.ownsRow w0.heap.size e s v n xs) (hg : (w.alloc o).grownBy w' v.ownBlock) (ho : ConR w0.heap.size w' vv vc vr vl k) (he : e ≠ 54) : ConT c w0 w' p vv vc vr vl k where
  st := (h.st.below (below_alloc _ _)).grown hg (fun j hj => by have h1 := (hv.lt j hj).1; have h2 := h.Rw; have h3 := h.Nw; have h4 := h.NBw; exact ⟨by omega, by omega, by omega⟩)
  fr := (h.fr.alloc _).grown hg (fun j hj => Or.inr ((hv.lt j hj).1))
  res := blk_grown (((below_alloc w o).block _ (Array.getElem?_eq_some_iff.1 h.res).1).trans h.res) hg (hv.alloc _) (Ne.symm he)
  con := blk_grown (((below_alloc w o).block _ (Array.getElem?_eq_some_iff.1 h.con).1).trans h.con) hg (hv.alloc _) (Ne.symm he)
  Rw := h.Rw
  Nw := h.Nw
  NBw := h.NBw
  own := ho
/-- Reader, frame and lists, once the result has been written. -/
theorem ConT.endd (h : ConT c w0 w p vv vc vr vl k) (u0 u1 u2 u3 u4 u5 : Value) (W : World)
    (hW : W = (((((w.setCell ⟨w0.heap.size, 0, none⟩ u0).setCell ⟨w0.heap.size, 1, none⟩ u1).setCell ⟨w0.heap.size, 2, none⟩ u2).setCell ⟨w0.heap.size, 3, none⟩ u3).setCell ⟨w0.heap.size, 4, none⟩ u4).setCell ⟨w0.heap.size, 5, none⟩ u5) :
    ConR w0.heap.size W vv vc vr vl k ∧ RSt c p W ∧ Fr (XR9 c.R) w0 W := by
  subst hW
  have hne : w0.heap.size ≠ c.R := by have := h.Rw; omega
  have k0 : ∃ cs, w.heap[w0.heap.size]? = some (.cells cs 54) := ⟨_, h.res⟩
  have k1 := blk_put k0 0 u0
  have k2 := blk_put k1 1 u1
  have k3 := blk_put k2 2 u2
  have k4 := blk_put k3 3 u3
  have k5 := blk_put k4 4 u4
  refine ⟨?_, ?_, ?_⟩
  · exact (((((h.own.set k0.choose_spec 0 u0).set k1.choose_spec 1 u1).set k2.choose_spec 2 u2).set k3.choose_spec 3 u3).set k4.choose_spec 4 u4).set k5.choose_spec 5 u5
  · exact (((((h.st.set (q := ⟨w0.heap.size, 0, none⟩) hne h.Nw h.NBw _).set (q := ⟨w0.heap.size, 1, none⟩) hne h.Nw h.NBw _).set (q := ⟨w0.heap.size, 2, none⟩) hne h.Nw h.NBw _).set (q := ⟨w0.heap.size, 3, none⟩) hne h.Nw h.NBw _).set (q := ⟨w0.heap.size, 4, none⟩) hne h.Nw h.NBw _).set (q := ⟨w0.heap.size, 5, none⟩) hne h.Nw h.NBw _
  · exact (((((h.fr.setNew (p := ⟨w0.heap.size, 0, none⟩) (Nat.le_refl _) _).setNew (p := ⟨w0.heap.size, 1, none⟩) (Nat.le_refl _) _).setNew (p := ⟨w0.heap.size, 2, none⟩) (Nat.le_refl _) _).setNew (p := ⟨w0.heap.size, 3, none⟩) (Nat.le_refl _) _).setNew (p := ⟨w0.heap.size, 4, none⟩) (Nat.le_refl _) _).setNew (p := ⟨w0.heap.size, 5, none⟩) (Nat.le_refl _) _
end
theorem solid_cons : ∀ s ∈ conWL.tail, solid s := by
  intro s hs
  simp only [conWL, List.tail_cons, List.mem_cons, List.not_mem_nil, or_false] at hs
  rcases hs with rfl | rfl | rfl | rfl | rfl | rfl | rfl | rfl | rfl | rfl <;> (unfold solid; rw [ByteArray.toList_eq, ByteArray.toList_eq]; rfl)
end Go.Proofs.YtdjbejlbmaiocabGreatDoor
/-
  WALK: the reference's reader: Con. (Made by genrfh.py.)
-/
namespace Go.Proofs.YtdjbejlbmaiocabGreatDoor
open Go.RowKit

/-- Literals are appended to those of a constraint. -/
theorem ConT.pushLit {c : RC} {w0 w w' : World} {p : RP} {vv vc vr vl v' : Value} {k : MCon} {x : MLit} {n : Nat} (h : ConT c w0 w p vv vc vr vl k) (hg : (w.alloc (.cells #[.int .i64 x.var, .int .i64 x.op, .int .i64 x.n] 76)).grownBy w' vl.ownBlock) (hn : n = k.lits.length + 1) (ho : w'.ownsRow w0.heap.size 76 3 v' n (k.lits.flatMap litC ++ litC x)) :
    ConT c w0 (w'.setCell ⟨w0.heap.size + 1, 5, none⟩ v') p vv vc vr v' { k with lits := k.lits ++ [x] } ∧ w'.heap[w0.heap.size + 1]? = some (.cells #[.int .i64 k.kind, vv, vc, .int .i64 k.n, vr, vl] 54) := by
  have hv := h.own.2.2.2
  have hk := blk_grown (((below_alloc w _).block _ (Array.getElem?_eq_some_iff.1 h.con).1).trans h.con) hg (hv.alloc _) (by decide)
  have ho2 : w'.ownsRow w0.heap.size 76 3 v' (k.lits ++ [x]).length ((k.lits ++ [x]).flatMap litC) := by
    rw [List.length_append, List.length_singleton, ← hn, List.flatMap_append]; simpa using ho
  have o1 := (h.own.1.alloc (.cells #[.int .i64 x.var, .int .i64 x.op, .int .i64 x.n] 76)).kept hg (apart9 h.own.1 hv (by decide))
  have o2 := (h.own.2.1.alloc (.cells #[.int .i64 x.var, .int .i64 x.op, .int .i64 x.n] 76)).kept hg (apart9 h.own.2.1 hv (by decide))
  have o3 := h.own.2.2.1.kept hv (by decide) (by decide) hg
  refine ⟨⟨?_, ?_, ?_, ?_, h.Rw, h.Nw, h.NBw, ?_⟩, hk⟩
  · exact ((h.st.below (below_alloc _ _)).grown hg (fun j hj => by have h1 := (hv.lt j hj).1; have h2 := h.Rw; have h3 := h.Nw; have h4 := h.NBw; exact ⟨by omega, by omega, by omega⟩)).set (q := ⟨w0.heap.size + 1, 5, none⟩) (by have := h.Rw; show w0.heap.size + 1 ≠ c.R; omega) (by have := h.Nw; show c.N ≤ w0.heap.size + 1; omega) (by have := h.NBw; show c.NB ≤ w0.heap.size + 1; omega) _
  · exact ((h.fr.alloc _).grown hg (fun j hj => Or.inr ((hv.lt j hj).1))).setNew (p := ⟨w0.heap.size + 1, 5, none⟩) (by show w0.heap.size ≤ w0.heap.size + 1; omega) _
  · exact (Below.heap_setCell _ _ _ _ (by show w0.heap.size ≠ w0.heap.size + 1; omega)).trans (blk_grown (((below_alloc w _).block _ (Array.getElem?_eq_some_iff.1 h.res).1).trans h.res) hg (hv.alloc _) (by decide))
  · rw [heap_setCell_same w' _ 5 _ _ _ hk]; rfl
  · exact ConR.set (c := { k with lits := k.lits ++ [x] }) ⟨o1, o2, o3, ho2⟩ hk 5 v'
/-- A row is appended to those of a constraint. -/
theorem ConT.pushRow {c : RC} {w0 w w' : World} {p : RP} {vv vc vr vl v' xv : Value} {k : MCon} {x : List Int} {n : Nat} {cells : List Value} (h : ConT c w0 w p vv vc vr vl k) (h1 : w.ownsRow w0.heap.size 50 1 vr k.rows.length cells) (h2 : ∀ (i : Nat) (r : List Int), k.rows[i]? = some r → ∃ x, cells[i]? = some x ∧ w.ownsRow w0.heap.size 3 1 x r.length (r.map (Value.int .i64)))
    (hx : w.ownsRow w0.heap.size 3 1 xv x.length (x.map (Value.int .i64))) (hg : (w.alloc (.cells #[xv] 50)).grownBy w' vr.ownBlock) (hn : n = k.rows.length + 1) (ho : w'.ownsRow w0.heap.size 50 1 v' n (cells ++ [xv])) :
    ConT c w0 (w'.setCell ⟨w0.heap.size + 1, 4, none⟩ v') p vv vc v' vl { k with rows := k.rows ++ [x] } ∧ w'.heap[w0.heap.size + 1]? = some (.cells #[.int .i64 k.kind, vv, vc, .int .i64 k.n, vr, vl] 54) := by
  have hk := blk_grown (((below_alloc w _).block _ (Array.getElem?_eq_some_iff.1 h.con).1).trans h.con) hg (h1.alloc _) (by decide)
  have o3 : LSr w0.heap.size w0.heap.size w' v' (k.rows ++ [x]) := LSr.push h1 h2 hx (by rw [← hn]; exact ho) hg
  have o1 := (h.own.1.alloc (.cells #[xv] 50)).kept hg (apart9 h.own.1 h1 (by decide))
  have o2 := (h.own.2.1.alloc (.cells #[xv] 50)).kept hg (apart9 h.own.2.1 h1 (by decide))
  have o4 := (h.own.2.2.2.alloc (.cells #[xv] 50)).kept hg (apart9 h.own.2.2.2 h1 (by decide))
  refine ⟨⟨?_, ?_, ?_, ?_, h.Rw, h.Nw, h.NBw, ?_⟩, hk⟩
  · exact ((h.st.below (below_alloc _ _)).grown hg (fun j hj => by have h1 := (h1.lt j hj).1; have h2 := h.Rw; have h3 := h.Nw; have h4 := h.NBw; exact ⟨by omega, by omega, by omega⟩)).set (q := ⟨w0.heap.size + 1, 4, none⟩) (by have := h.Rw; show w0.heap.size + 1 ≠ c.R; omega) (by have := h.Nw; show c.N ≤ w0.heap.size + 1; omega) (by have := h.NBw; show c.NB ≤ w0.heap.size + 1; omega) _
  · exact ((h.fr.alloc _).grown hg (fun j hj => Or.inr ((h1.lt j hj).1))).setNew (p := ⟨w0.heap.size + 1, 4, none⟩) (by show w0.heap.size ≤ w0.heap.size + 1; omega) _
  · exact (Below.heap_setCell _ _ _ _ (by show w0.heap.size ≠ w0.heap.size + 1; omega)).trans (blk_grown (((below_alloc w _).block _ (Array.getElem?_eq_some_iff.1 h.res).1).trans h.res) hg (h1.alloc _) (by decide))
  · rw [heap_setCell_same w' _ 4 _ _ _ hk]; rfl
  · exact ConR.set (c := { k with rows := k.rows ++ [x] }) ⟨o1, o2, o3, o4⟩ hk 4 v'
/-- The row of one is lengthened, ahead of being stored. -/
theorem ConT.push8 {c : RC} {w0 w w' : World} {p : RP} {g : Nat} {v' : Value} {xs : List Int} {ys : List Value} (h : ConT c w0 w p (.slice none 0 0) (.slice none 0 0) (.slice none 0 0) (.slice none 0 0) ⟨8, [], [], 0, [], []⟩) (hr : w.ownsRow w0.heap.size 3 1 (.slice (some ⟨g, 0, none⟩) 1 1) 1 ys) (hg : w.grownBy w' (some g)) (ho : w'.ownsRow w0.heap.size 3 1 v' xs.length (xs.map (Value.int .i64))) :
    ConT c w0 (w'.setCell ⟨w0.heap.size + 1, 1, none⟩ v') p v' (.slice none 0 0) (.slice none 0 0) (.slice none 0 0) ⟨8, xs, [], 0, [], []⟩ ∧ w'.heap[w0.heap.size + 1]? = some (.cells #[.int .i64 8, .slice none 0 0, .slice none 0 0, .int .i64 0, .slice none 0 0, .slice none 0 0] 54) := by
  have hgl := (hr.lt g rfl).1
  have e1 : w0.heap.size + 1 ≠ g := row_ne_cells hr h.con (by decide)
  have e2 : w0.heap.size ≠ g := row_ne_cells hr h.res (by decide)
  have hcon := (hg.block _ (Array.getElem?_eq_some_iff.1 h.con).1 (fun e => e1 (Option.some.inj e))).trans h.con
  have hT : ConT c w0 w' p (.slice none 0 0) (.slice none 0 0) (.slice none 0 0) (.slice none 0 0) ⟨8, [], [], 0, [], []⟩ :=
    ⟨h.st.grown hg (fun j hj => by cases hj; have h2 := h.Rw; have h3 := h.Nw; have h4 := h.NBw; exact ⟨by omega, by omega, by omega⟩), h.fr.grown hg (fun j hj => by cases hj; exact Or.inr hgl), (hg.block _ (Array.getElem?_eq_some_iff.1 h.res).1 (fun e => e2 (Option.some.inj e))).trans h.res, hcon, h.Rw, h.Nw, h.NBw, ConR.none _ _ _⟩
  exact ⟨hT.vars ho, hcon⟩
theorem loop_len {α : Type} (en : Int) (T : List Tok) (item : RP → α × RP) : ∀ (f : Nat) (acc : List α) (q : Bool × RP), (loopR en T item f acc q).1.length ≤ acc.length + f
  | 0, acc, q => by unfold loopR; exact Nat.le_refl _
  | f + 1, acc, q => by
    unfold loopR
    split
    · have := loop_len en T item f (acc ++ [(item q.2).1]) (more2R en T (item q.2).2)
      simp at this
      omega
    · show acc.length ≤ _; omega
theorem list_len {α : Type} (en : Int) (T : List Tok) (item : RP → α × RP) (p : RP) : (listR en T item p).1.length ≤ T.length + 2 := by
  have := loop_len en T item (T.length + 2) [] (more1R en T p)
  unfold listR
  simpa using this
def cellLen (w : World) (a : Addr) : Nat := match w.cell? a with | some v => lenOf v | none => 0
theorem list_k {α : Type} {en : Int} {T : List Tok} {item : RP → α × RP} (h : Onward item) : Onward (listR en T item) := fun p => by
  have h1 : ∀ (s : ByteArray) p, p.k ≤ (needR en T s p).k := need_k en T
  have h2 : ∀ (p : RP), p.k ≤ (more1R en T p).2.k := fun p => by
    unfold more1R
    split
    · exact Nat.le_trans (h1 _ p) (h1 _ _)
    · exact h1 _ p
  have h3 : ∀ (p : RP), p.k ≤ (more2R en T p).2.k := fun p => by
    unfold more2R
    split
    · exact h1 _ p
    · exact h1 _ p
  have h4 : ∀ (f : Nat) (acc : List α) (q : Bool × RP), q.2.k ≤ (loopR en T item f acc q).2.k := by
    intro f
    induction f with
    | zero => intro acc q; unfold loopR; exact Nat.le_refl _
    | succ f ih =>
      intro acc q
      unfold loopR
      split
      · exact Nat.le_trans (h q.2) (Nat.le_trans (h3 _) (ih _ _))
      · exact Nat.le_refl _
  exact Nat.le_trans (h2 p) (h4 _ _ _)

set_option maxHeartbeats 4000000 in
set_option maxRecDepth 100000 in
theorem rconR_any (c : RC) (p : RP) (w : World) (h : RSt c p w) :
    Calls Tryz.prog 22 #[.pointer (some ⟨c.R, 0, none⟩)] w fun e w' => ∃ vv vc vr vl, e = .returned (conV vv vc vr vl (conR c.en c.T c.nm p).1) ∧ ConR w.heap.size w' vv vc vr vl (conR c.en c.T c.nm p).1 ∧ RSt c (conR c.en c.T c.nm p).2 w' ∧ Fr (XR9 c.R) w w' := by
  have HS : Hid (RSt c p w) := h
  obtain ⟨Q, hQ⟩ : ∃ Q, conR c.en c.T c.nm p = Q := ⟨_, rfl⟩
  rw [hQ]
  have HQ : Hid (Q = bodyR c.en c.T c.nm (1 + (wordR c.en c.T p conWL.tail 0).1) (wordR c.en c.T p conWL.tail 0).2) := hQ.symm
  have hT4 : c.T.length ≤ 4000 := by obtain ⟨v, _, a, c, _, _, ht, _⟩ := h.blk; exact ht.1
  have hlt := h.lt
  have HNW : Hid (c.N ≤ w.heap.size ∧ c.NB ≤ w.heap.size) := ⟨h.Nw, h.nb⟩
  obtain ⟨iR, hiR, hzR0, hzR1, hzR2⟩ := info_parts Tryz.infoRow5
  obtain ⟨iL, hiL, hzL0, hzL1, hzL2⟩ := info_parts Tryz.infoLit5
  obtain ⟨iI, hiI, hzI0, hzI1, hzI2⟩ := info_parts Tryz.infoInt5
  clear h hQ
  have HB0 : Hid (Below w.heap.size w ((w.alloc (.cells #[.int .i64 0, .slice none 0 0, .slice none 0 0, .int .i64 0, .slice none 0 0, .slice none 0 0] 54)).alloc (.cells #[.int .i64 0, .slice none 0 0, .slice none 0 0, .int .i64 0, .slice none 0 0, .slice none 0 0] 54))) := (below_alloc _ _).alloc (by simp) _
  have HK0 : Hid (((w.alloc (.cells #[.int .i64 0, .slice none 0 0, .slice none 0 0, .int .i64 0, .slice none 0 0, .slice none 0 0] 54)).alloc (.cells #[.int .i64 0, .slice none 0 0, .slice none 0 0, .int .i64 0, .slice none 0 0, .slice none 0 0] 54)).heap[w.heap.size]? = some (.cells #[.int .i64 0, .slice none 0 0, .slice none 0 0, .int .i64 0, .slice none 0 0, .slice none 0 0] 54)) := ((below_alloc (w.alloc (.cells #[.int .i64 0, .slice none 0 0, .slice none 0 0, .int .i64 0, .slice none 0 0, .slice none 0 0] 54)) (.cells #[.int .i64 0, .slice none 0 0, .slice none 0 0, .int .i64 0, .slice none 0 0, .slice none 0 0] 54)).block w.heap.size (by simp)).trans (heap_alloc_new w _)
  have HK1 : Hid (((w.alloc (.cells #[.int .i64 0, .slice none 0 0, .slice none 0 0, .int .i64 0, .slice none 0 0, .slice none 0 0] 54)).alloc (.cells #[.int .i64 0, .slice none 0 0, .slice none 0 0, .int .i64 0, .slice none 0 0, .slice none 0 0] 54)).heap[w.heap.size + 1]? = some (.cells #[.int .i64 0, .slice none 0 0, .slice none 0 0, .int .i64 0, .slice none 0 0, .slice none 0 0] 54)) := by
    have h := heap_alloc_new (w.alloc (.cells #[.int .i64 0, .slice none 0 0, .slice none 0 0, .int .i64 0, .slice none 0 0, .slice none 0 0] 54)) (.cells #[.int .i64 0, .slice none 0 0, .slice none 0 0, .int .i64 0, .slice none 0 0, .slice none 0 0] 54)
    rw [World.size_alloc] at h
    exact h
  have HZS : Hid (((w.alloc (.cells #[.int .i64 0, .slice none 0 0, .slice none 0 0, .int .i64 0, .slice none 0 0, .slice none 0 0] 54)).alloc (.cells #[.int .i64 0, .slice none 0 0, .slice none 0 0, .int .i64 0, .slice none 0 0, .slice none 0 0] 54)).heap.size = w.heap.size + 1 + 1) := by show _ = _; simp
  obtain ⟨Y, hY⟩ : ∃ Y, (w.alloc (.cells #[.int .i64 0, .slice none 0 0, .slice none 0 0, .int .i64 0, .slice none 0 0, .slice none 0 0] 54)).alloc (.cells #[.int .i64 0, .slice none 0 0, .slice none 0 0, .int .i64 0, .slice none 0 0, .slice none 0 0] 54) = Y := ⟨_, rfl⟩
  rw [hY] at HB0 HK0 HK1 HZS
  have HY : Hid ((w.alloc (.cells #[.int .i64 0, .slice none 0 0, .slice none 0 0, .int .i64 0, .slice none 0 0, .slice none 0 0] 54)).alloc (.cells #[.int .i64 0, .slice none 0 0, .slice none 0 0, .int .i64 0, .slice none 0 0, .slice none 0 0] 54) = Y) := hY
  clear hY
  have HSA : Hid (SArg (Y.alloc (.cells (conWL.tail.map Value.string).toArray 9)) (.slice (some ⟨w.heap.size + 1 + 1, 0, none⟩) 10 10) conWL.tail) := strs9 Y conWL.tail _ HZS.out.symm (by decide)
  go_enter Tryz.func22, Tryz.ntmps22
  go_wp2_with fail
  rw [HY.out]
  refine (rword_any c p conWL.tail solid_cons _ _ ?_ HSA.out).mono ?_
  · exact (HS.out.below HB0.out).below (below_alloc _ _)
  rintro e w1 ⟨rfl, h1, hf1⟩
  have HWB : Hid (0 ≤ (wordR c.en c.T p conWL.tail 0).1 ∧ (wordR c.en c.T p conWL.tail 0).1 ≤ ((0 + conWL.tail.length : Nat) : Int)) := word_bound c.en c.T p conWL.tail 0
  obtain ⟨q, hq⟩ : ∃ q, wordR c.en c.T p conWL.tail 0 = q := ⟨_, rfl⟩
  rw [hq] at HQ h1 HWB ⊢
  obtain ⟨o, p1⟩ := q
  clear hq
  dsimp only at HQ h1 HWB ⊢
  have ho : 0 ≤ o ∧ o ≤ 10 := by have h := HWB.out; have e : conWL.tail.length = 10 := rfl; rw [e] at h; omega
  have hfw : Fr (XR9 c.R) Y w1 := (Fr.below (below_alloc _ _)).trans hf1
  have HS1 : Hid (ConT c w w1 p1 (.slice none 0 0) (.slice none 0 0) (.slice none 0 0) (.slice none 0 0) ⟨0, [], [], 0, [], []⟩) := by
    have hl : w.heap.size + 1 < Y.heap.size := (Array.getElem?_eq_some_iff.1 HK1.out).1
    exact ⟨h1, (Fr.below HB0.out).trans hfw, (hfw.block _ (by omega) (by show ¬ _ = _; omega)).trans HK0.out, (hfw.block _ hl (by show ¬ _ = _; omega)).trans HK1.out, hlt, HNW.out.1, HNW.out.2, ConR.none _ _ _⟩
  have c0 : w1.cell? ⟨w.heap.size + 1, 0, none⟩ = some (.int .i64 0) := blk9 HS1.out.con 0 _ rfl
  have z0 := frz9 HS1.out.con 0
  obtain ⟨k, hk⟩ : ∃ k : Int, 1 + o = k := ⟨_, rfl⟩
  have hwk : IntKind.i64.wrap (1 + o) = k := by rw [IntKind.wrap_i64]; omega
  have HS2 : Hid (ConT c w (w1.setCell ⟨w.heap.size + 1, 0, none⟩ (.int .i64 k)) p1 (.slice none 0 0) (.slice none 0 0) (.slice none 0 0) (.slice none 0 0) ⟨k, [], [], 0, [], []⟩) := HS1.out.kind k
  rw [hk] at HQ
  have hk1 : 1 ≤ k ∧ k ≤ 11 := by omega
  clear h1 hf1 hfw HS1 HB0 HK0 HK1 HZS HSA HY HS
  go_upto_block 0 with (fail)
  obtain ⟨y0, hy0⟩ : ∃ y0, w1.setCell ⟨w.heap.size + 1, 0, none⟩ (.int .i64 k) = y0 := ⟨_, rfl⟩
  rw [hy0] at HS2 ⊢
  clear c0 z0 hwk hk hy0 HWB ho
  go_cut [] (fun wx => Hid (∃ vv vc vr vl, ConT c w wx Q.2 vv vc vr vl Q.1))
  case first =>
    have hcases : k = 1 ∨ k = 2 ∨ k = 3 ∨ k = 4 ∨ k = 5 ∨ k = 6 ∨ k = 7 ∨ k = 8 ∨ k = 9 ∨ k = 10 ∨ k = 11 := by omega
    clear hk1
    rcases hcases with hkk | hkk | hkk | hkk | hkk | hkk | hkk | hkk | hkk | hkk | hkk
    · subst hkk
      have HE : Hid (Q = (⟨1, (listR c.en c.T (vR c.en c.T c.nm) (listR c.en c.T (kR c.en c.T) p1).2).1, (listR c.en c.T (kR c.en c.T) p1).1, (kR c.en c.T (listR c.en c.T (vR c.en c.T c.nm) (listR c.en c.T (kR c.en c.T) p1).2).2).1, [], []⟩, (kR c.en c.T (listR c.en c.T (vR c.en c.T c.nm) (listR c.en c.T (kR c.en c.T) p1).2).2).2)) := by show _ = _; rw [HQ.out]; unfold bodyR; rw [if_pos (by decide)]
      clear HQ
      go_wp2_with fail
      refine (rks_any c p1 _ HS2.out.st).mono ?_
      rintro e w2 ⟨v2, rfl, hown, hst, hfr⟩
      obtain ⟨q, hq⟩ : ∃ q, listR c.en c.T (kR c.en c.T) p1 = q := ⟨_, rfl⟩
      rw [hq] at hown hst HE
      obtain ⟨cs, p2⟩ := q
      clear hq
      dsimp only at hown hst HE
      have HO : Hid (w2.ownsRow w.heap.size 3 1 v2 cs.length (cs.map (Value.int .i64))) := own_mono9 hown HS2.out.base
      obtain ⟨a2, c2, hv⟩ := own_form hown
      subst hv
      clear hown
      have HS3 : Hid (ConT c w w2 p2 (.slice none 0 0) (.slice none 0 0) (.slice none 0 0) (.slice none 0 0) ⟨1, [], [], 0, [], []⟩) := HS2.out.call hfr hst
      clear hst hfr HS2
      have k0 : w2.cell? ⟨w.heap.size + 1, 2, none⟩ = some (.slice none 0 0) := blk9 HS3.out.con 2 _ rfl
      have z0 := frz9 HS3.out.con 2
      have HS4 : Hid (ConT c w (w2.setCell ⟨w.heap.size + 1, 2, none⟩ (.slice a2 cs.length c2)) p2 (.slice none 0 0) (.slice a2 cs.length c2) (.slice none 0 0) (.slice none 0 0) ⟨1, [], cs, 0, [], []⟩) := HS3.out.consts HO.out
      clear HS3
      go_wp2_with fail
      refine (rvs_any c p2 _ HS4.out.st).mono ?_
      rintro e w3 ⟨v3, rfl, hown, hst, hfr⟩
      obtain ⟨q, hq⟩ : ∃ q, listR c.en c.T (vR c.en c.T c.nm) p2 = q := ⟨_, rfl⟩
      rw [hq] at hown hst HE
      obtain ⟨vs, p3⟩ := q
      clear hq
      dsimp only at hown hst HE
      have HO : Hid (w3.ownsRow w.heap.size 3 1 v3 vs.length (vs.map (Value.int .i64))) := own_mono9 hown HS4.out.base
      obtain ⟨a3, c3, hv⟩ := own_form hown
      subst hv
      clear hown
      have HS5 : Hid (ConT c w w3 p3 (.slice none 0 0) (.slice a2 cs.length c2) (.slice none 0 0) (.slice none 0 0) ⟨1, [], cs, 0, [], []⟩) := HS4.out.call hfr hst
      clear hst hfr HS4
      have k0 : w3.cell? ⟨w.heap.size + 1, 1, none⟩ = some (.slice none 0 0) := blk9 HS5.out.con 1 _ rfl
      have z0 := frz9 HS5.out.con 1
      have HS6 : Hid (ConT c w (w3.setCell ⟨w.heap.size + 1, 1, none⟩ (.slice a3 vs.length c3)) p3 (.slice a3 vs.length c3) (.slice a2 cs.length c2) (.slice none 0 0) (.slice none 0 0) ⟨1, vs, cs, 0, [], []⟩) := HS5.out.vars HO.out
      clear HS5
      go_wp2_with fail
      refine (rk_any c p3 _ HS6.out.st).mono ?_
      rintro e w4 ⟨rfl, hst, hfr⟩
      obtain ⟨q, hq⟩ : ∃ q, kR c.en c.T p3 = q := ⟨_, rfl⟩
      rw [hq] at hst HE ⊢
      obtain ⟨n, p4⟩ := q
      clear hq
      dsimp only at hst HE ⊢
      have HS7 : Hid (ConT c w w4 p4 (.slice a3 vs.length c3) (.slice a2 cs.length c2) (.slice none 0 0) (.slice none 0 0) ⟨1, vs, cs, 0, [], []⟩) := HS6.out.call hfr hst
      clear hst hfr HS6
      have k0 : w4.cell? ⟨w.heap.size + 1, 3, none⟩ = some (.int .i64 0) := blk9 HS7.out.con 3 _ rfl
      have z0 := frz9 HS7.out.con 3
      have HS8 : Hid (ConT c w (w4.setCell ⟨w.heap.size + 1, 3, none⟩ (.int .i64 n)) p4 (.slice a3 vs.length c3) (.slice a2 cs.length c2) (.slice none 0 0) (.slice none 0 0) ⟨1, vs, cs, n, [], []⟩) := HS7.out.n n
      clear HS7
      go_wp2_with fail
      go_meet
      refine ⟨(.slice a3 vs.length c3), (.slice a2 cs.length c2), (.slice none 0 0), (.slice none 0 0), ?_⟩
      rw [HE.out]
      exact HS8.out
    · subst hkk
      have HE : Hid (Q = (⟨2, (listR c.en c.T (vR c.en c.T c.nm) (listR c.en c.T (kR c.en c.T) p1).2).1, (listR c.en c.T (kR c.en c.T) p1).1, (kR c.en c.T (listR c.en c.T (vR c.en c.T c.nm) (listR c.en c.T (kR c.en c.T) p1).2).2).1, [], []⟩, (kR c.en c.T (listR c.en c.T (vR c.en c.T c.nm) (listR c.en c.T (kR c.en c.T) p1).2).2).2)) := by show _ = _; rw [HQ.out]; unfold bodyR; rw [if_pos (by decide)]
      clear HQ
      go_wp2_with fail
      refine (rks_any c p1 _ HS2.out.st).mono ?_
      rintro e w2 ⟨v2, rfl, hown, hst, hfr⟩
      obtain ⟨q, hq⟩ : ∃ q, listR c.en c.T (kR c.en c.T) p1 = q := ⟨_, rfl⟩
      rw [hq] at hown hst HE
      obtain ⟨cs, p2⟩ := q
      clear hq
      dsimp only at hown hst HE
      have HO : Hid (w2.ownsRow w.heap.size 3 1 v2 cs.length (cs.map (Value.int .i64))) := own_mono9 hown HS2.out.base
      obtain ⟨a2, c2, hv⟩ := own_form hown
      subst hv
      clear hown
      have HS3 : Hid (ConT c w w2 p2 (.slice none 0 0) (.slice none 0 0) (.slice none 0 0) (.slice none 0 0) ⟨2, [], [], 0, [], []⟩) := HS2.out.call hfr hst
      clear hst hfr HS2
      have k0 : w2.cell? ⟨w.heap.size + 1, 2, none⟩ = some (.slice none 0 0) := blk9 HS3.out.con 2 _ rfl
      have z0 := frz9 HS3.out.con 2
      have HS4 : Hid (ConT c w (w2.setCell ⟨w.heap.size + 1, 2, none⟩ (.slice a2 cs.length c2)) p2 (.slice none 0 0) (.slice a2 cs.length c2) (.slice none 0 0) (.slice none 0 0) ⟨2, [], cs, 0, [], []⟩) := HS3.out.consts HO.out
      clear HS3
      go_wp2_with fail
      refine (rvs_any c p2 _ HS4.out.st).mono ?_
      rintro e w3 ⟨v3, rfl, hown, hst, hfr⟩
      obtain ⟨q, hq⟩ : ∃ q, listR c.en c.T (vR c.en c.T c.nm) p2 = q := ⟨_, rfl⟩
      rw [hq] at hown hst HE
      obtain ⟨vs, p3⟩ := q
      clear hq
      dsimp only at hown hst HE
      have HO : Hid (w3.ownsRow w.heap.size 3 1 v3 vs.length (vs.map (Value.int .i64))) := own_mono9 hown HS4.out.base
      obtain ⟨a3, c3, hv⟩ := own_form hown
      subst hv
      clear hown
      have HS5 : Hid (ConT c w w3 p3 (.slice none 0 0) (.slice a2 cs.length c2) (.slice none 0 0) (.slice none 0 0) ⟨2, [], cs, 0, [], []⟩) := HS4.out.call hfr hst
      clear hst hfr HS4
      have k0 : w3.cell? ⟨w.heap.size + 1, 1, none⟩ = some (.slice none 0 0) := blk9 HS5.out.con 1 _ rfl
      have z0 := frz9 HS5.out.con 1
      have HS6 : Hid (ConT c w (w3.setCell ⟨w.heap.size + 1, 1, none⟩ (.slice a3 vs.length c3)) p3 (.slice a3 vs.length c3) (.slice a2 cs.length c2) (.slice none 0 0) (.slice none 0 0) ⟨2, vs, cs, 0, [], []⟩) := HS5.out.vars HO.out
      clear HS5
      go_wp2_with fail
      refine (rk_any c p3 _ HS6.out.st).mono ?_
      rintro e w4 ⟨rfl, hst, hfr⟩
      obtain ⟨q, hq⟩ : ∃ q, kR c.en c.T p3 = q := ⟨_, rfl⟩
      rw [hq] at hst HE ⊢
      obtain ⟨n, p4⟩ := q
      clear hq
      dsimp only at hst HE ⊢
      have HS7 : Hid (ConT c w w4 p4 (.slice a3 vs.length c3) (.slice a2 cs.length c2) (.slice none 0 0) (.slice none 0 0) ⟨2, vs, cs, 0, [], []⟩) := HS6.out.call hfr hst
      clear hst hfr HS6
      have k0 : w4.cell? ⟨w.heap.size + 1, 3, none⟩ = some (.int .i64 0) := blk9 HS7.out.con 3 _ rfl
      have z0 := frz9 HS7.out.con 3
      have HS8 : Hid (ConT c w (w4.setCell ⟨w.heap.size + 1, 3, none⟩ (.int .i64 n)) p4 (.slice a3 vs.length c3) (.slice a2 cs.length c2) (.slice none 0 0) (.slice none 0 0) ⟨2, vs, cs, n, [], []⟩) := HS7.out.n n
      clear HS7
      go_wp2_with fail
      go_meet
      refine ⟨(.slice a3 vs.length c3), (.slice a2 cs.length c2), (.slice none 0 0), (.slice none 0 0), ?_⟩
      rw [HE.out]
      exact HS8.out
    · subst hkk
      have HE : Hid (Q = (⟨3, (listR c.en c.T (vR c.en c.T c.nm) (listR c.en c.T (kR c.en c.T) p1).2).1, (listR c.en c.T (kR c.en c.T) p1).1, (kR c.en c.T (listR c.en c.T (vR c.en c.T c.nm) (listR c.en c.T (kR c.en c.T) p1).2).2).1, [], []⟩, (kR c.en c.T (listR c.en c.T (vR c.en c.T c.nm) (listR c.en c.T (kR c.en c.T) p1).2).2).2)) := by show _ = _; rw [HQ.out]; unfold bodyR; rw [if_pos (by decide)]
      clear HQ
      go_wp2_with fail
      refine (rks_any c p1 _ HS2.out.st).mono ?_
      rintro e w2 ⟨v2, rfl, hown, hst, hfr⟩
      obtain ⟨q, hq⟩ : ∃ q, listR c.en c.T (kR c.en c.T) p1 = q := ⟨_, rfl⟩
      rw [hq] at hown hst HE
      obtain ⟨cs, p2⟩ := q
      clear hq
      dsimp only at hown hst HE
      have HO : Hid (w2.ownsRow w.heap.size 3 1 v2 cs.length (cs.map (Value.int .i64))) := own_mono9 hown HS2.out.base
      obtain ⟨a2, c2, hv⟩ := own_form hown
      subst hv
      clear hown
      have HS3 : Hid (ConT c w w2 p2 (.slice none 0 0) (.slice none 0 0) (.slice none 0 0) (.slice none 0 0) ⟨3, [], [], 0, [], []⟩) := HS2.out.call hfr hst
      clear hst hfr HS2
      have k0 : w2.cell? ⟨w.heap.size + 1, 2, none⟩ = some (.slice none 0 0) := blk9 HS3.out.con 2 _ rfl
      have z0 := frz9 HS3.out.con 2
      have HS4 : Hid (ConT c w (w2.setCell ⟨w.heap.size + 1, 2, none⟩ (.slice a2 cs.length c2)) p2 (.slice none 0 0) (.slice a2 cs.length c2) (.slice none 0 0) (.slice none 0 0) ⟨3, [], cs, 0, [], []⟩) := HS3.out.consts HO.out
      clear HS3
      go_wp2_with fail
      refine (rvs_any c p2 _ HS4.out.st).mono ?_
      rintro e w3 ⟨v3, rfl, hown, hst, hfr⟩
      obtain ⟨q, hq⟩ : ∃ q, listR c.en c.T (vR c.en c.T c.nm) p2 = q := ⟨_, rfl⟩
      rw [hq] at hown hst HE
      obtain ⟨vs, p3⟩ := q
      clear hq
      dsimp only at hown hst HE
      have HO : Hid (w3.ownsRow w.heap.size 3 1 v3 vs.length (vs.map (Value.int .i64))) := own_mono9 hown HS4.out.base
      obtain ⟨a3, c3, hv⟩ := own_form hown
      subst hv
      clear hown
      have HS5 : Hid (ConT c w w3 p3 (.slice none 0 0) (.slice a2 cs.length c2) (.slice none 0 0) (.slice none 0 0) ⟨3, [], cs, 0, [], []⟩) := HS4.out.call hfr hst
      clear hst hfr HS4
      have k0 : w3.cell? ⟨w.heap.size + 1, 1, none⟩ = some (.slice none 0 0) := blk9 HS5.out.con 1 _ rfl
      have z0 := frz9 HS5.out.con 1
      have HS6 : Hid (ConT c w (w3.setCell ⟨w.heap.size + 1, 1, none⟩ (.slice a3 vs.length c3)) p3 (.slice a3 vs.length c3) (.slice a2 cs.length c2) (.slice none 0 0) (.slice none 0 0) ⟨3, vs, cs, 0, [], []⟩) := HS5.out.vars HO.out
      clear HS5
      go_wp2_with fail
      refine (rk_any c p3 _ HS6.out.st).mono ?_
      rintro e w4 ⟨rfl, hst, hfr⟩
      obtain ⟨q, hq⟩ : ∃ q, kR c.en c.T p3 = q := ⟨_, rfl⟩
      rw [hq] at hst HE ⊢
      obtain ⟨n, p4⟩ := q
      clear hq
      dsimp only at hst HE ⊢
      have HS7 : Hid (ConT c w w4 p4 (.slice a3 vs.length c3) (.slice a2 cs.length c2) (.slice none 0 0) (.slice none 0 0) ⟨3, vs, cs, 0, [], []⟩) := HS6.out.call hfr hst
      clear hst hfr HS6
      have k0 : w4.cell? ⟨w.heap.size + 1, 3, none⟩ = some (.int .i64 0) := blk9 HS7.out.con 3 _ rfl
      have z0 := frz9 HS7.out.con 3
      have HS8 : Hid (ConT c w (w4.setCell ⟨w.heap.size + 1, 3, none⟩ (.int .i64 n)) p4 (.slice a3 vs.length c3) (.slice a2 cs.length c2) (.slice none 0 0) (.slice none 0 0) ⟨3, vs, cs, n, [], []⟩) := HS7.out.n n
      clear HS7
      go_wp2_with fail
      go_meet
      refine ⟨(.slice a3 vs.length c3), (.slice a2 cs.length c2), (.slice none 0 0), (.slice none 0 0), ?_⟩
      rw [HE.out]
      exact HS8.out
    · subst hkk
      have HE : Hid (Q = (⟨4, (listR c.en c.T (vR c.en c.T c.nm) p1).1, [], 0, [], []⟩, (listR c.en c.T (vR c.en c.T c.nm) p1).2)) := by show _ = _; rw [HQ.out]; unfold bodyR; simp only [show ¬ ((4 : Int) = 1 ∨ (4 : Int) = 2 ∨ (4 : Int) = 3) by decide, if_false, if_true]
      clear HQ
      go_wp2_with fail
      refine (rvs_any c p1 _ HS2.out.st).mono ?_
      rintro e w2 ⟨v2, rfl, hown, hst, hfr⟩
      obtain ⟨q, hq⟩ : ∃ q, listR c.en c.T (vR c.en c.T c.nm) p1 = q := ⟨_, rfl⟩
      rw [hq] at hown hst HE
      obtain ⟨vs, p2⟩ := q
      clear hq
      dsimp only at hown hst HE
      have HO : Hid (w2.ownsRow w.heap.size 3 1 v2 vs.length (vs.map (Value.int .i64))) := own_mono9 hown HS2.out.base
      obtain ⟨a2, c2, hv⟩ := own_form hown
      subst hv
      clear hown
      have HS3 : Hid (ConT c w w2 p2 (.slice none 0 0) (.slice none 0 0) (.slice none 0 0) (.slice none 0 0) ⟨4, [], [], 0, [], []⟩) := HS2.out.call hfr hst
      clear hst hfr HS2
      have k0 : w2.cell? ⟨w.heap.size + 1, 1, none⟩ = some (.slice none 0 0) := blk9 HS3.out.con 1 _ rfl
      have z0 := frz9 HS3.out.con 1
      have HS4 : Hid (ConT c w (w2.setCell ⟨w.heap.size + 1, 1, none⟩ (.slice a2 vs.length c2)) p2 (.slice a2 vs.length c2) (.slice none 0 0) (.slice none 0 0) (.slice none 0 0) ⟨4, vs, [], 0, [], []⟩) := HS3.out.vars HO.out
      clear HS3
      go_wp2_with fail
      go_meet
      refine ⟨(.slice a2 vs.length c2), (.slice none 0 0), (.slice none 0 0), (.slice none 0 0), ?_⟩
      rw [HE.out]
      exact HS4.out
    · subst hkk
      have HE : Hid (Q = (⟨5, [(vR c.en c.T c.nm (listR c.en c.T (kR c.en c.T) p1).2).1, (vR c.en c.T c.nm (vR c.en c.T c.nm (listR c.en c.T (kR c.en c.T) p1).2).2).1], (listR c.en c.T (kR c.en c.T) p1).1, 0, [], []⟩, (vR c.en c.T c.nm (vR c.en c.T c.nm (listR c.en c.T (kR c.en c.T) p1).2).2).2)) := by show _ = _; rw [HQ.out]; unfold bodyR; simp only [show ¬ ((5 : Int) = 1 ∨ (5 : Int) = 2 ∨ (5 : Int) = 3) by decide, if_false, show ¬ ((5 : Int) = 4) by decide, if_true]
      clear HQ
      go_wp2_with fail
      refine (rks_any c p1 _ HS2.out.st).mono ?_
      rintro e w2 ⟨v2, rfl, hown, hst, hfr⟩
      obtain ⟨q, hq⟩ : ∃ q, listR c.en c.T (kR c.en c.T) p1 = q := ⟨_, rfl⟩
      rw [hq] at hown hst HE
      obtain ⟨cs, p2⟩ := q
      clear hq
      dsimp only at hown hst HE
      have HO : Hid (w2.ownsRow w.heap.size 3 1 v2 cs.length (cs.map (Value.int .i64))) := own_mono9 hown HS2.out.base
      obtain ⟨a2, c2, hv⟩ := own_form hown
      subst hv
      clear hown
      have HS3 : Hid (ConT c w w2 p2 (.slice none 0 0) (.slice none 0 0) (.slice none 0 0) (.slice none 0 0) ⟨5, [], [], 0, [], []⟩) := HS2.out.call hfr hst
      clear hst hfr HS2
      have k0 : w2.cell? ⟨w.heap.size + 1, 2, none⟩ = some (.slice none 0 0) := blk9 HS3.out.con 2 _ rfl
      have z0 := frz9 HS3.out.con 2
      have HS4 : Hid (ConT c w (w2.setCell ⟨w.heap.size + 1, 2, none⟩ (.slice a2 cs.length c2)) p2 (.slice none 0 0) (.slice a2 cs.length c2) (.slice none 0 0) (.slice none 0 0) ⟨5, [], cs, 0, [], []⟩) := HS3.out.consts HO.out
      clear HS3
      go_wp2_with fail
      refine (rv_any c p2 _ HS4.out.st).mono ?_
      rintro e w3 ⟨rfl, hst, hfr⟩
      obtain ⟨q, hq⟩ : ∃ q, vR c.en c.T c.nm p2 = q := ⟨_, rfl⟩
      rw [hq] at hst HE ⊢
      obtain ⟨a, p3⟩ := q
      clear hq
      dsimp only at hst HE ⊢
      have HS5 : Hid (ConT c w w3 p3 (.slice none 0 0) (.slice a2 cs.length c2) (.slice none 0 0) (.slice none 0 0) ⟨5, [], cs, 0, [], []⟩) := HS4.out.call hfr hst
      clear hst hfr HS4
      go_wp2_with fail
      refine (rv_any c p3 _ HS5.out.st).mono ?_
      rintro e w4 ⟨rfl, hst, hfr⟩
      obtain ⟨q, hq⟩ : ∃ q, vR c.en c.T c.nm p3 = q := ⟨_, rfl⟩
      rw [hq] at hst HE ⊢
      obtain ⟨b, p4⟩ := q
      clear hq
      dsimp only at hst HE ⊢
      have HS6 : Hid (ConT c w w4 p4 (.slice none 0 0) (.slice a2 cs.length c2) (.slice none 0 0) (.slice none 0 0) ⟨5, [], cs, 0, [], []⟩) := HS5.out.call hfr hst
      clear hst hfr HS5
      have k0 : w4.cell? ⟨w.heap.size + 1, 1, none⟩ = some (.slice none 0 0) := blk9 HS6.out.con 1 _ rfl
      have z0 := frz9 HS6.out.con 1
      have l0 : w.heap.size + 1 < w4.heap.size := (Array.getElem?_eq_some_iff.1 HS6.out.con).1
      have HS7 : Hid (ConT c w ((w4.setCell ⟨w.heap.size + 1, 1, none⟩ (.slice (some ⟨w4.heap.size, 0, none⟩) 2 2)).alloc (.cells #[.int .i64 a, .int .i64 b] 3)) p4 (.slice (some ⟨w4.heap.size, 0, none⟩) 2 2) (.slice a2 cs.length c2) (.slice none 0 0) (.slice none 0 0) ⟨5, [a, b], cs, 0, [], []⟩) := HS6.out.varsLit [a, b] (by simp)
      clear HS6
      go_wp2_with fail
      go_meet
      refine ⟨(.slice (some ⟨w4.heap.size, 0, none⟩) 2 2), (.slice a2 cs.length c2), (.slice none 0 0), (.slice none 0 0), ?_⟩
      rw [HE.out]
      exact HS7.out
    · subst hkk
      have HE : Hid (Q = (⟨6, (listR c.en c.T (vR c.en c.T c.nm) p1).1, [], 0, (listR c.en c.T (listR c.en c.T (kR c.en c.T)) (listR c.en c.T (vR c.en c.T c.nm) p1).2).1, []⟩, (listR c.en c.T (listR c.en c.T (kR c.en c.T)) (listR c.en c.T (vR c.en c.T c.nm) p1).2).2)) := by show _ = _; rw [HQ.out]; unfold bodyR; simp only [show ¬ ((6 : Int) = 1 ∨ (6 : Int) = 2 ∨ (6 : Int) = 3) by decide, if_false, show ¬ ((6 : Int) = 4) by decide, show ¬ ((6 : Int) = 5) by decide, if_true]
      clear HQ
      go_wp2_with fail
      refine (rvs_any c p1 _ HS2.out.st).mono ?_
      rintro e w2 ⟨v2, rfl, hown, hst, hfr⟩
      obtain ⟨q, hq⟩ : ∃ q, listR c.en c.T (vR c.en c.T c.nm) p1 = q := ⟨_, rfl⟩
      rw [hq] at hown hst HE
      obtain ⟨vs, p2⟩ := q
      clear hq
      dsimp only at hown hst HE
      have HO : Hid (w2.ownsRow w.heap.size 3 1 v2 vs.length (vs.map (Value.int .i64))) := own_mono9 hown HS2.out.base
      obtain ⟨a2, c2, hv⟩ := own_form hown
      subst hv
      clear hown
      have HS3 : Hid (ConT c w w2 p2 (.slice none 0 0) (.slice none 0 0) (.slice none 0 0) (.slice none 0 0) ⟨6, [], [], 0, [], []⟩) := HS2.out.call hfr hst
      clear hst hfr HS2
      have k0 : w2.cell? ⟨w.heap.size + 1, 1, none⟩ = some (.slice none 0 0) := blk9 HS3.out.con 1 _ rfl
      have z0 := frz9 HS3.out.con 1
      have HS4 : Hid (ConT c w (w2.setCell ⟨w.heap.size + 1, 1, none⟩ (.slice a2 vs.length c2)) p2 (.slice a2 vs.length c2) (.slice none 0 0) (.slice none 0 0) (.slice none 0 0) ⟨6, vs, [], 0, [], []⟩) := HS3.out.vars HO.out
      clear HS3
      obtain ⟨L, hL⟩ : ∃ L, listR c.en c.T (listR c.en c.T (kR c.en c.T)) p2 = L := ⟨_, rfl⟩
      rw [hL] at HE
      have HQ2 : Hid (loopR c.en c.T (listR c.en c.T (kR c.en c.T)) (c.T.length + 2) [] (more1R c.en c.T p2) = L) := hL
      clear hL
      go_wp2_with fail
      refine (rmore1_any c p2 _ HS4.out.st).mono ?_
      rintro e wm ⟨rfl, hst, hfr⟩
      obtain ⟨q, hq⟩ : ∃ q, more1R c.en c.T p2 = q := ⟨_, rfl⟩
      rw [hq] at HQ2 hst ⊢
      obtain ⟨bm, pm⟩ := q
      have HSM : Hid (ConT c w wm pm (.slice a2 vs.length c2) (.slice none 0 0) (.slice none 0 0) (.slice none 0 0) ⟨6, vs, [], 0, [], []⟩) := HS4.out.call hfr hst
      clear hst hfr hq HS4 k0 z0
      dsimp only
      go_wp2_with fail
      go_loopw [6] (fun mo wr => ∃ (f : Nat) (acc : List (List Int)) (b : Bool) (p : RP) (vx : Value), Hid (loopR c.en c.T (listR c.en c.T (kR c.en c.T)) f acc (b, p) = L) ∧ mo = .bool b ∧ Hid (ConT c w wr p (.slice a2 vs.length c2) (.slice none 0 0) vx (.slice none 0 0) ⟨6, vs, [], 0, acc, []⟩) ∧ acc.length + f = c.T.length + 2 ∧ (b = true → c.T.length + 2 ≤ f + p.k)) (fun _ wr => c.T.length + 3 - cellLen wr ⟨w.heap.size + 1, 4, none⟩)
      case atStart => exact ⟨c.T.length + 2, [], bm, pm, _, HQ2, rfl, HSM, by simp, fun _ => by omega⟩
      case round =>
        clear HQ2 HSM
        obtain ⟨f, acc, b, p2, vx, HQ2, rfl, HS2, haf, hbf⟩ := hrel
        have HKT := HS2.out.st.kT
        obtain ⟨al, cl, rfl⟩ := HS2.out.own.2.2.1.form
        cases b
        · have HL : Hid (L = (acc, p2)) := HQ2.out.symm.trans (loop_end _ _ _ _ _ _)
          clear hbf HQ2
          go_wp2_with fail
          go_meet
          refine ⟨(.slice a2 vs.length c2), (.slice none 0 0), (.slice al acc.length cl), (.slice none 0 0), ?_⟩
          rw [HE.out, HL.out]
          exact HS2.out
        · have hbf2 := hbf rfl
          obtain ⟨g, rfl⟩ : ∃ g, f = g + 1 := ⟨f - 1, by omega⟩
          have HQ3 : Hid (loopR c.en c.T (listR c.en c.T (kR c.en c.T)) g (acc ++ [((listR c.en c.T (kR c.en c.T)) p2).1]) (more2R c.en c.T ((listR c.en c.T (kR c.en c.T)) p2).2) = L) := (loop_go _ _ _ _ _ _).symm.trans HQ2.out
          have HLN : Hid (acc.length ≤ 5000) := by show _ ≤ _; omega
          have HM0 : Hid (cellLen wr ⟨w.heap.size + 1, 4, none⟩ = acc.length) := by show _ = _; unfold cellLen; rw [blk9 HS2.out.con 4 _ rfl]; rfl
          clear hbf HQ2
          go_wp2_with fail
          have c1 : wr.cell? ⟨w.heap.size + 1, 4, none⟩ = some (.slice al acc.length cl) := blk9 HS2.out.con 4 _ rfl
          have HSD : Hid (ConT c w wr.drew p2 (.slice a2 vs.length c2) (.slice none 0 0) (.slice al acc.length cl) (.slice none 0 0) ⟨6, vs, [], 0, acc, []⟩) := HS2.out.below (Below.refl _ _).drew
          have hnv := rks_any c p2 wr.drew HSD.out.st
          have HKK : Hid (p2.k ≤ ((listR c.en c.T (kR c.en c.T)) p2).2.k) := list_k (k_k c.en c.T) p2
          obtain ⟨q, hq⟩ : ∃ q, (listR c.en c.T (kR c.en c.T)) p2 = q := ⟨_, rfl⟩
          rw [hq] at hnv HQ3 HKK
          obtain ⟨x, p3⟩ := q
          clear hq
          dsimp only at hnv HQ3 HKK
          go_region_law
            (first
              | (rw [if_pos (by rfl)]; refine wp_append_own _ _ _ 51 rfl w.heap.size 50 iR _ 1 24 Tryz.underRows5 hiR hzR0 hzR1 hzR2 rfl (by decide) _ _ _ rfl (hw8.alloc _) ⟨w8.heap.size, 0, none⟩ 1 1 [.slice a8 x.length b8] rfl rfl (one_laidR w8 _) (by intro u hu; rcases List.mem_singleton.1 hu with rfl; rfl) ?_ ?_ ?_ ?_; (have := HLN.out; unfold maxLen; dsimp only; omega); (have := HLN.out; dsimp only; omega); (have := HT.base; simp; omega); intro v9 w9 hown9 hg9 _; have HU := HT.pushRow hw8 hc8 hx8 hg9 rfl hown9; have d0 := blk9 HU.2 4 _ rfl; have z0 := frz9 HU.2 4; obtain ⟨a9, b9, hv9⟩ := own_form hown9; subst hv9)
              | (rw [if_pos (by rfl)]; go_simp; go_at_call 49; refine hnv.mono ?_; rintro e w8 ⟨v8, rfl, ho8, hst8, hfr8⟩; have HT := HSD.out.call hfr8 hst8; have hx8 := own_mono9 ho8 HSD.out.base; obtain ⟨a8, b8, hv8⟩ := own_form hx8; subst hv8; obtain ⟨cells8, hw8, hc8⟩ := HT.own.2.2.1; have c8 := blk9 HT.con 4 _ rfl; have hl8 : w.heap.size + 1 < w8.heap.size := (Array.getElem?_eq_some_iff.1 HT.con).1; dsimp only))
          all_goals
            have HSN : Hid (ConT c w (w9.setCell ⟨w.heap.size + 1, 4, none⟩ (.slice a9 (acc.length + 1) b9)) p3 (.slice a2 vs.length c2) (.slice none 0 0) (.slice a9 (acc.length + 1) b9) (.slice none 0 0) ⟨6, vs, [], 0, (acc ++ [x]), []⟩) := HU.1
            clear HT HU HSD hnv hg9 hown9 c1 c8 HS2 hx8 hw8 hc8 ho8 hst8 hfr8
            go_wp2_with fail
            clear d0 z0
            refine (rmore2_any c p3 _ HSN.out.st).mono ?_
            rintro e w4 ⟨rfl, h4, hf4⟩
            have HM2 : Hid ((more2R c.en c.T p3).1 = true → (more2R c.en c.T p3).2.k = p3.k + 1) := more2_k c.en c.T p3
            obtain ⟨q, hq⟩ : ∃ q, more2R c.en c.T p3 = q := ⟨_, rfl⟩
            rw [hq] at HQ3 h4 HM2 ⊢
            obtain ⟨b4, p4⟩ := q
            have HS4 : Hid (ConT c w w4 p4 (.slice a2 vs.length c2) (.slice none 0 0) (.slice a9 (acc.length + 1) b9) (.slice none 0 0) ⟨6, vs, [], 0, (acc ++ [x]), []⟩) := HSN.out.call hf4 h4
            clear h4 hf4 hq HSN
            dsimp only at *
            have HB4 : Hid (b4 = true → c.T.length + 2 ≤ g + p4.k) := fun hb => by have h1 := HM2.out hb; have h2 := HKK.out; omega
            have HM4 : Hid (cellLen w4 ⟨w.heap.size + 1, 4, none⟩ = acc.length + 1) := by show _ = _; unfold cellLen; rw [blk9 HS4.out.con 4 _ rfl]; rfl
            go_wp2
            go_roundw
            case rel => exact ⟨g, acc ++ [x], b4, p4, _, HQ3, rfl, HS4, by simp; omega, HB4.out⟩
            case measure => have h1 := HM0.out; have h2 := HM4.out; simp only [h1, h2]; omega
    · subst hkk
      have HE : Hid (Q = (⟨7, [(vR c.en c.T c.nm p1).1, (vR c.en c.T c.nm (vR c.en c.T c.nm p1).2).1, (vR c.en c.T c.nm (vR c.en c.T c.nm (vR c.en c.T c.nm p1).2).2).1], [], 0, [], []⟩, (vR c.en c.T c.nm (vR c.en c.T c.nm (vR c.en c.T c.nm p1).2).2).2)) := by show _ = _; rw [HQ.out]; unfold bodyR; simp only [show ¬ ((7 : Int) = 1 ∨ (7 : Int) = 2 ∨ (7 : Int) = 3) by decide, if_false, show ¬ ((7 : Int) = 4) by decide, show ¬ ((7 : Int) = 5) by decide, show ¬ ((7 : Int) = 6) by decide, if_true]
      clear HQ
      go_wp2_with fail
      refine (rv_any c p1 _ HS2.out.st).mono ?_
      rintro e w2 ⟨rfl, hst, hfr⟩
      obtain ⟨q, hq⟩ : ∃ q, vR c.en c.T c.nm p1 = q := ⟨_, rfl⟩
      rw [hq] at hst HE ⊢
      obtain ⟨a, p2⟩ := q
      clear hq
      dsimp only at hst HE ⊢
      have HS3 : Hid (ConT c w w2 p2 (.slice none 0 0) (.slice none 0 0) (.slice none 0 0) (.slice none 0 0) ⟨7, [], [], 0, [], []⟩) := HS2.out.call hfr hst
      clear hst hfr HS2
      go_wp2_with fail
      refine (rv_any c p2 _ HS3.out.st).mono ?_
      rintro e w3 ⟨rfl, hst, hfr⟩
      obtain ⟨q, hq⟩ : ∃ q, vR c.en c.T c.nm p2 = q := ⟨_, rfl⟩
      rw [hq] at hst HE ⊢
      obtain ⟨b, p3⟩ := q
      clear hq
      dsimp only at hst HE ⊢
      have HS4 : Hid (ConT c w w3 p3 (.slice none 0 0) (.slice none 0 0) (.slice none 0 0) (.slice none 0 0) ⟨7, [], [], 0, [], []⟩) := HS3.out.call hfr hst
      clear hst hfr HS3
      go_wp2_with fail
      refine (rv_any c p3 _ HS4.out.st).mono ?_
      rintro e w4 ⟨rfl, hst, hfr⟩
      obtain ⟨q, hq⟩ : ∃ q, vR c.en c.T c.nm p3 = q := ⟨_, rfl⟩
      rw [hq] at hst HE ⊢
      obtain ⟨d, p4⟩ := q
      clear hq
      dsimp only at hst HE ⊢
      have HS5 : Hid (ConT c w w4 p4 (.slice none 0 0) (.slice none 0 0) (.slice none 0 0) (.slice none 0 0) ⟨7, [], [], 0, [], []⟩) := HS4.out.call hfr hst
      clear hst hfr HS4
      have k0 : w4.cell? ⟨w.heap.size + 1, 1, none⟩ = some (.slice none 0 0) := blk9 HS5.out.con 1 _ rfl
      have z0 := frz9 HS5.out.con 1
      have l0 : w.heap.size + 1 < w4.heap.size := (Array.getElem?_eq_some_iff.1 HS5.out.con).1
      have HS6 : Hid (ConT c w ((w4.setCell ⟨w.heap.size + 1, 1, none⟩ (.slice (some ⟨w4.heap.size, 0, none⟩) 3 3)).alloc (.cells #[.int .i64 a, .int .i64 b, .int .i64 d] 3)) p4 (.slice (some ⟨w4.heap.size, 0, none⟩) 3 3) (.slice none 0 0) (.slice none 0 0) (.slice none 0 0) ⟨7, [a, b, d], [], 0, [], []⟩) := HS5.out.varsLit [a, b, d] (by simp)
      clear HS5
      go_wp2_with fail
      go_meet
      refine ⟨(.slice (some ⟨w4.heap.size, 0, none⟩) 3 3), (.slice none 0 0), (.slice none 0 0), (.slice none 0 0), ?_⟩
      rw [HE.out]
      exact HS6.out
    · subst hkk
      have HE : Hid (Q = (⟨8, [(vR c.en c.T c.nm p1).1] ++ (listR c.en c.T (vR c.en c.T c.nm) (vR c.en c.T c.nm p1).2).1, [], 0, [], []⟩, (listR c.en c.T (vR c.en c.T c.nm) (vR c.en c.T c.nm p1).2).2)) := by show _ = _; rw [HQ.out]; unfold bodyR; simp only [show ¬ ((8 : Int) = 1 ∨ (8 : Int) = 2 ∨ (8 : Int) = 3) by decide, if_false, show ¬ ((8 : Int) = 4) by decide, show ¬ ((8 : Int) = 5) by decide, show ¬ ((8 : Int) = 6) by decide, show ¬ ((8 : Int) = 7) by decide, if_true]
      clear HQ
      go_wp2_with fail
      refine (rv_any c p1 _ HS2.out.st).mono ?_
      rintro e w2 ⟨rfl, hst, hfr⟩
      obtain ⟨q, hq⟩ : ∃ q, vR c.en c.T c.nm p1 = q := ⟨_, rfl⟩
      rw [hq] at hst HE ⊢
      obtain ⟨a, p2⟩ := q
      clear hq
      dsimp only at hst HE ⊢
      have HS3 : Hid (ConT c w w2 p2 (.slice none 0 0) (.slice none 0 0) (.slice none 0 0) (.slice none 0 0) ⟨8, [], [], 0, [], []⟩) := HS2.out.call hfr hst
      clear hst hfr HS2
      have HRO : Hid ((w2.alloc (.cells #[.int .i64 a] 3)).ownsRow w.heap.size 3 1 (.slice (some ⟨w2.heap.size, 0, none⟩) 1 1) 1 [.int .i64 a]) := World.ownsRow_lit (e := 3) (size := 1) w2 #[.int .i64 a] 1 HS3.out.base (by unfold maxLen; omega) rfl
      have HSA : Hid (ConT c w (w2.alloc (.cells #[.int .i64 a] 3)) p2 (.slice none 0 0) (.slice none 0 0) (.slice none 0 0) (.slice none 0 0) ⟨8, [], [], 0, [], []⟩) := HS3.out.below (below_alloc _ _)
      clear HS3
      go_wp2_with fail
      refine (rvs_any c p2 _ HSA.out.st).mono ?_
      rintro e w9 ⟨v9, rfl, hown, hst, hfr⟩
      have hvl := list_len c.en c.T (vR c.en c.T c.nm) p2
      obtain ⟨q, hq⟩ : ∃ q, listR c.en c.T (vR c.en c.T c.nm) p2 = q := ⟨_, rfl⟩
      rw [hq] at hown hst HE hvl
      obtain ⟨vs, p9⟩ := q
      clear hq
      dsimp only at hown hst HE hvl
      obtain ⟨vn, hvn⟩ : ∃ vn, [a] ++ vs = vn := ⟨_, rfl⟩
      have HVN : Hid ([a] ++ vs = vn) := hvn
      rw [hvn] at HE
      clear hvn
      have HVL : Hid ([a].length + vs.length ≤ 100000) := by show _ ≤ _; simp; omega
      have HS9 : Hid (ConT c w w9 p9 (.slice none 0 0) (.slice none 0 0) (.slice none 0 0) (.slice none 0 0) ⟨8, [], [], 0, [], []⟩) := HSA.out.call hfr hst
      have HR9 : Hid (w9.ownsRow w.heap.size 3 1 (.slice (some ⟨w2.heap.size, 0, none⟩) 1 1) 1 [.int .i64 a]) := own_fr HRO.out hfr (fun j hj => by have h1 : j = c.R := hj; rw [h1]; exact hlt)
      have HOV := hown
      have hb9 := HS9.out.base
      obtain ⟨a9, c9, hv⟩ := own_form hown
      subst hv
      clear hown hst hfr HSA HRO hvl
      go_wp2_with (at_builtin; refine wpList_plain rfl fun K hK => wp_append_rows9 _ _ rfl w.heap.size _ [a] rfl HR9.out _ vs rfl _ HOV HVL.out hb9 ?_)
      intro v6 w6 hown6 hg6
      have hown7 : w6.ownsRow w.heap.size 3 1 v6 vn.length (vn.map (Value.int .i64)) := by rw [← HVN.out]; first | exact hown6 | simpa using hown6
      have HU := HS9.out.push8 HR9.out hg6 hown7
      have d1 := blk9 HU.2 1 _ rfl
      have z1 := frz9 HU.2 1
      have HSN : Hid (ConT c w (w6.setCell ⟨w.heap.size + 1, 1, none⟩ v6) p9 v6 (.slice none 0 0) (.slice none 0 0) (.slice none 0 0) ⟨8, vn, [], 0, [], []⟩) := HU.1
      obtain ⟨a6, c6, hv6⟩ := own_form hown7
      subst hv6
      clear HU hg6 HS9 HR9 HOV hown6 hown7 HVN HVL
      refine hK _ _ ?_
      go_wp2_with fail
      go_meet
      refine ⟨(.slice a6 vn.length c6), (.slice none 0 0), (.slice none 0 0), (.slice none 0 0), ?_⟩
      rw [HE.out]
      exact HSN.out
    · subst hkk
      have HE : Hid (Q = (⟨9, [], [], 0, [], (listR c.en c.T (litR c.en c.T c.nm) p1).1⟩, (listR c.en c.T (litR c.en c.T c.nm) p1).2)) := by show _ = _; rw [HQ.out]; unfold bodyR; simp only [show ¬ ((9 : Int) = 1 ∨ (9 : Int) = 2 ∨ (9 : Int) = 3) by decide, if_false, show ¬ ((9 : Int) = 4) by decide, show ¬ ((9 : Int) = 5) by decide, show ¬ ((9 : Int) = 6) by decide, show ¬ ((9 : Int) = 7) by decide, show ¬ ((9 : Int) = 8) by decide, if_true]
      clear HQ
      obtain ⟨L, hL⟩ : ∃ L, listR c.en c.T (litR c.en c.T c.nm) p1 = L := ⟨_, rfl⟩
      rw [hL] at HE
      have HQ2 : Hid (loopR c.en c.T (litR c.en c.T c.nm) (c.T.length + 2) [] (more1R c.en c.T p1) = L) := hL
      clear hL
      go_wp2_with fail
      refine (rmore1_any c p1 _ HS2.out.st).mono ?_
      rintro e wm ⟨rfl, hst, hfr⟩
      obtain ⟨q, hq⟩ : ∃ q, more1R c.en c.T p1 = q := ⟨_, rfl⟩
      rw [hq] at HQ2 hst ⊢
      obtain ⟨bm, pm⟩ := q
      have HSM : Hid (ConT c w wm pm (.slice none 0 0) (.slice none 0 0) (.slice none 0 0) (.slice none 0 0) ⟨9, [], [], 0, [], []⟩) := HS2.out.call hfr hst
      clear hst hfr hq HS2
      dsimp only
      go_wp2_with fail
      go_loopw [11] (fun mo wr => ∃ (f : Nat) (acc : List MLit) (b : Bool) (p : RP) (vx : Value), Hid (loopR c.en c.T (litR c.en c.T c.nm) f acc (b, p) = L) ∧ mo = .bool b ∧ Hid (ConT c w wr p (.slice none 0 0) (.slice none 0 0) (.slice none 0 0) vx ⟨9, [], [], 0, [], acc⟩) ∧ acc.length + f = c.T.length + 2 ∧ (b = true → c.T.length + 2 ≤ f + p.k)) (fun _ wr => c.T.length + 3 - cellLen wr ⟨w.heap.size + 1, 5, none⟩)
      case atStart => exact ⟨c.T.length + 2, [], bm, pm, _, HQ2, rfl, HSM, by simp, fun _ => by omega⟩
      case round =>
        clear HQ2 HSM
        obtain ⟨f, acc, b, p2, vx, HQ2, rfl, HS2, haf, hbf⟩ := hrel
        have HKT := HS2.out.st.kT
        obtain ⟨al, cl, rfl⟩ := own_form HS2.out.own.2.2.2
        cases b
        · have HL : Hid (L = (acc, p2)) := HQ2.out.symm.trans (loop_end _ _ _ _ _ _)
          clear hbf HQ2
          go_wp2_with fail
          go_meet
          refine ⟨(.slice none 0 0), (.slice none 0 0), (.slice none 0 0), (.slice al acc.length cl), ?_⟩
          rw [HE.out, HL.out]
          exact HS2.out
        · have hbf2 := hbf rfl
          obtain ⟨g, rfl⟩ : ∃ g, f = g + 1 := ⟨f - 1, by omega⟩
          have HQ3 : Hid (loopR c.en c.T (litR c.en c.T c.nm) g (acc ++ [((litR c.en c.T c.nm) p2).1]) (more2R c.en c.T ((litR c.en c.T c.nm) p2).2) = L) := (loop_go _ _ _ _ _ _).symm.trans HQ2.out
          have HLN : Hid (acc.length ≤ 5000) := by show _ ≤ _; omega
          have HM0 : Hid (cellLen wr ⟨w.heap.size + 1, 5, none⟩ = acc.length) := by show _ = _; unfold cellLen; rw [blk9 HS2.out.con 5 _ rfl]; rfl
          clear hbf HQ2
          go_wp2_with fail
          have c1 : wr.cell? ⟨w.heap.size + 1, 5, none⟩ = some (.slice al acc.length cl) := blk9 HS2.out.con 5 _ rfl
          have HSD : Hid (ConT c w wr.drew p2 (.slice none 0 0) (.slice none 0 0) (.slice none 0 0) (.slice al acc.length cl) ⟨9, [], [], 0, [], acc⟩) := HS2.out.below (Below.refl _ _).drew
          have hnv := rlitR_any c p2 wr.drew HSD.out.st
          have HKK : Hid (p2.k ≤ ((litR c.en c.T c.nm) p2).2.k) := lit_k c.en c.T c.nm p2
          obtain ⟨q, hq⟩ : ∃ q, (litR c.en c.T c.nm) p2 = q := ⟨_, rfl⟩
          rw [hq] at hnv HQ3 HKK
          obtain ⟨x, p3⟩ := q
          clear hq
          dsimp only at hnv HQ3 HKK
          go_region_law
            (first
              | (rw [if_pos (by rfl)]; refine wp_append_own _ _ _ 52 rfl w.heap.size 76 iL _ 3 24 Tryz.underLits5 hiL hzL0 hzL1 hzL2 rfl (by decide) _ _ _ rfl (HT.own.2.2.2.alloc _) ⟨w8.heap.size, 0, none⟩ 1 1 (litC x) rfl rfl (one_laidL w8 x) (litC_one x) ?_ ?_ ?_ ?_; (have := HLN.out; unfold maxLen; dsimp only; omega); (have := HLN.out; dsimp only; omega); (have := HT.base; simp; omega); intro v9 w9 hown9 hg9 _; have HU := HT.pushLit hg9 rfl hown9; have d0 := blk9 HU.2 5 _ rfl; have z0 := frz9 HU.2 5; obtain ⟨a9, b9, hv9⟩ := own_form hown9; subst hv9)
              | (rw [if_pos (by rfl)]; go_simp; go_at_call 52; refine hnv.mono ?_; rintro e w8 ⟨rfl, hst8, hfr8⟩; have HT := HSD.out.call hfr8 hst8; have c8 := blk9 HT.con 5 _ rfl; have hl8 : w.heap.size + 1 < w8.heap.size := (Array.getElem?_eq_some_iff.1 HT.con).1; unfold litA; dsimp only))
          all_goals
            have HSN : Hid (ConT c w (w9.setCell ⟨w.heap.size + 1, 5, none⟩ (.slice a9 (acc.length + 1) b9)) p3 (.slice none 0 0) (.slice none 0 0) (.slice none 0 0) (.slice a9 (acc.length + 1) b9) ⟨9, [], [], 0, [], (acc ++ [x])⟩) := HU.1
            clear HT HU HSD hnv hg9 hown9 c1 c8 HS2 hst8 hfr8
            go_wp2_with fail
            clear d0 z0
            refine (rmore2_any c p3 _ HSN.out.st).mono ?_
            rintro e w4 ⟨rfl, h4, hf4⟩
            have HM2 : Hid ((more2R c.en c.T p3).1 = true → (more2R c.en c.T p3).2.k = p3.k + 1) := more2_k c.en c.T p3
            obtain ⟨q, hq⟩ : ∃ q, more2R c.en c.T p3 = q := ⟨_, rfl⟩
            rw [hq] at HQ3 h4 HM2 ⊢
            obtain ⟨b4, p4⟩ := q
            have HS4 : Hid (ConT c w w4 p4 (.slice none 0 0) (.slice none 0 0) (.slice none 0 0) (.slice a9 (acc.length + 1) b9) ⟨9, [], [], 0, [], (acc ++ [x])⟩) := HSN.out.call hf4 h4
            clear h4 hf4 hq HSN
            dsimp only at *
            have HB4 : Hid (b4 = true → c.T.length + 2 ≤ g + p4.k) := fun hb => by have h1 := HM2.out hb; have h2 := HKK.out; omega
            have HM4 : Hid (cellLen w4 ⟨w.heap.size + 1, 5, none⟩ = acc.length + 1) := by show _ = _; unfold cellLen; rw [blk9 HS4.out.con 5 _ rfl]; rfl
            go_wp2
            go_roundw
            case rel => exact ⟨g, acc ++ [x], b4, p4, _, HQ3, rfl, HS4, by simp; omega, HB4.out⟩
            case measure => have h1 := HM0.out; have h2 := HM4.out; simp only [h1, h2]; omega
    · subst hkk
      have HE : Hid (Q = (⟨10, [(vR c.en c.T c.nm p1).1], [], 0, [], [(litR c.en c.T c.nm (vR c.en c.T c.nm p1).2).1]⟩, (litR c.en c.T c.nm (vR c.en c.T c.nm p1).2).2)) := by show _ = _; rw [HQ.out]; unfold bodyR; simp only [show ¬ ((10 : Int) = 1 ∨ (10 : Int) = 2 ∨ (10 : Int) = 3) by decide, if_false, show ¬ ((10 : Int) = 4) by decide, show ¬ ((10 : Int) = 5) by decide, show ¬ ((10 : Int) = 6) by decide, show ¬ ((10 : Int) = 7) by decide, show ¬ ((10 : Int) = 8) by decide, show ¬ ((10 : Int) = 9) by decide, if_true]
      clear HQ
      go_wp2_with fail
      refine (rv_any c p1 _ HS2.out.st).mono ?_
      rintro e w2 ⟨rfl, hst, hfr⟩
      obtain ⟨q, hq⟩ : ∃ q, vR c.en c.T c.nm p1 = q := ⟨_, rfl⟩
      rw [hq] at hst HE ⊢
      obtain ⟨a, p2⟩ := q
      clear hq
      dsimp only at hst HE ⊢
      have HS3 : Hid (ConT c w w2 p2 (.slice none 0 0) (.slice none 0 0) (.slice none 0 0) (.slice none 0 0) ⟨10, [], [], 0, [], []⟩) := HS2.out.call hfr hst
      clear hst hfr HS2
      have k0 : w2.cell? ⟨w.heap.size + 1, 1, none⟩ = some (.slice none 0 0) := blk9 HS3.out.con 1 _ rfl
      have z0 := frz9 HS3.out.con 1
      have l0 : w.heap.size + 1 < w2.heap.size := (Array.getElem?_eq_some_iff.1 HS3.out.con).1
      have HSY : Hid (ConT c w ((w2.setCell ⟨w.heap.size + 1, 1, none⟩ (.slice (some ⟨w2.heap.size, 0, none⟩) 1 1)).alloc (.cells #[.int .i64 a] 3)) p2 (.slice (some ⟨w2.heap.size, 0, none⟩) 1 1) (.slice none 0 0) (.slice none 0 0) (.slice none 0 0) ⟨10, [a], [], 0, [], []⟩) := HS3.out.varsLit [a] (by simp)
      clear HS3
      go_wp2_with fail
      clear k0 z0 l0
      obtain ⟨av, hav⟩ : ∃ av : Option Addr, some ⟨w2.heap.size, 0, none⟩ = av := ⟨_, rfl⟩
      obtain ⟨yy, hyy⟩ : ∃ yy, (w2.setCell ⟨w.heap.size + 1, 1, none⟩ (.slice (some ⟨w2.heap.size, 0, none⟩) 1 1)).alloc (.cells #[.int .i64 a] 3) = yy := ⟨_, rfl⟩
      rw [hyy, hav] at HSY
      rw [hyy]
      clear hyy hav
      have HLN : Hid (([] : List MLit).length ≤ 5000) := by show _ ≤ _; simp
      have c1 : yy.cell? ⟨w.heap.size + 1, 5, none⟩ = some (.slice none 0 0) := blk9 HSY.out.con 5 _ rfl
      have HSD : Hid (ConT c w yy.drew p2 (.slice av 1 1) (.slice none 0 0) (.slice none 0 0) (.slice none 0 0) ⟨10, [a], [], 0, [], []⟩) := HSY.out.below (Below.refl _ _).drew
      have hnv := rlitR_any c p2 yy.drew HSD.out.st
      obtain ⟨q, hq⟩ : ∃ q, (litR c.en c.T c.nm) p2 = q := ⟨_, rfl⟩
      rw [hq] at hnv HE
      obtain ⟨x, p3⟩ := q
      clear hq
      dsimp only at hnv HE
      go_region_law
        (first
          | (rw [if_pos (by rfl)]; refine wp_append_own _ _ _ 52 rfl w.heap.size 76 iL _ 3 24 Tryz.underLits5 hiL hzL0 hzL1 hzL2 rfl (by decide) _ _ _ rfl (HT.own.2.2.2.alloc _) ⟨w8.heap.size, 0, none⟩ 1 1 (litC x) rfl rfl (one_laidL w8 x) (litC_one x) ?_ ?_ ?_ ?_; (have := HLN.out; unfold maxLen; dsimp only; omega); (have := HLN.out; dsimp only; omega); (have := HT.base; simp; omega); intro v9 w9 hown9 hg9 _; have HU := HT.pushLit hg9 rfl hown9; have d0 := blk9 HU.2 5 _ rfl; have z0 := frz9 HU.2 5; obtain ⟨a9, b9, hv9⟩ := own_form hown9; subst hv9)
          | (rw [if_pos (by rfl)]; go_simp; go_at_call 52; refine hnv.mono ?_; rintro e w8 ⟨rfl, hst8, hfr8⟩; have HT := HSD.out.call hfr8 hst8; have c8 := blk9 HT.con 5 _ rfl; have hl8 : w.heap.size + 1 < w8.heap.size := (Array.getElem?_eq_some_iff.1 HT.con).1; unfold litA; dsimp only))
      all_goals
        have HSN : Hid (ConT c w (w9.setCell ⟨w.heap.size + 1, 5, none⟩ (.slice a9 1 b9)) p3 (.slice av 1 1) (.slice none 0 0) (.slice none 0 0) (.slice a9 1 b9) ⟨10, [a], [], 0, [], [x]⟩) := HU.1
        clear HT HU HSD hnv hg9 hown9 c1 c8 HSY
        go_wp2_with fail
        go_meet
        refine ⟨(.slice av 1 1), (.slice none 0 0), (.slice none 0 0), (.slice a9 1 b9), ?_⟩
        rw [HE.out]
        exact HSN.out
    · subst hkk
      have HE : Hid (Q = (⟨11, [], [], 0, [], []⟩, p1)) := by show _ = _; rw [HQ.out]; rfl
      clear HQ
      go_wp2_with fail
      go_meet
      refine ⟨(.slice none 0 0), (.slice none 0 0), (.slice none 0 0), (.slice none 0 0), ?_⟩
      rw [HE.out]
      exact HS2.out
  case rest =>
    obtain ⟨vv, vc, vr, vl, hT⟩ := hcut.out
    have HT : Hid (ConT c w wc Q.2 vv vc vr vl Q.1) := hT
    obtain ⟨a1, c1, rfl⟩ := own_form hT.own.1
    obtain ⟨a2, c2, rfl⟩ := own_form hT.own.2.1
    obtain ⟨a3, c3, rfl⟩ := hT.own.2.2.1.form
    obtain ⟨a4, c4, rfl⟩ := own_form hT.own.2.2.2
    have k0 := blk9 hT.con 0 _ rfl
    have k1 := blk9 hT.con 1 _ rfl
    have k2 := blk9 hT.con 2 _ rfl
    have k3 := blk9 hT.con 3 _ rfl
    have k4 := blk9 hT.con 4 _ rfl
    have k5 := blk9 hT.con 5 _ rfl
    have r0 := blk9 hT.res 0 _ rfl
    have r1 := blk9 hT.res 1 _ rfl
    have r2 := blk9 hT.res 2 _ rfl
    have r3 := blk9 hT.res 3 _ rfl
    have r4 := blk9 hT.res 4 _ rfl
    have r5 := blk9 hT.res 5 _ rfl
    have x0 := frz9 hT.res 0
    have x1 := frz9 hT.res 1
    have x2 := frz9 hT.res 2
    have x3 := frz9 hT.res 3
    have x4 := frz9 hT.res 4
    have x5 := frz9 hT.res 5
    have HEND := HT.out.endd
    clear hT hcut
    go_wp2
    refine bodyPost_ret (by simp [results, Tryz.results22, go_sem, *]; try rfl) rfl ?_
    obtain ⟨e1, e2, e3⟩ := HEND _ _ _ _ _ _ _ rfl
    exact ⟨_, _, _, _, rfl, e1, e2, e3⟩
end Go.Proofs.YtdjbejlbmaiocabGreatDoor
