/-
  PART 15 of what the proof leans on (TxtO, TxtP, TxtQ, TxtR, TxtS, TxtT, TxtU, TxtV, ModQ2).
-/
import Derived.Test.YtdjbejlbmaiocagGreatDoorPartN
import Derived.Deep.RegionHeld3
import Derived.Deep.RegionLaw
/-
  WALK: package text: the reader: con, kind max. (Made by gencon.py.)
-/
namespace Go.Proofs.YtdjbejlbmaiocagGreatDoor
open Go.RowKit

theorem append_nothing9 (w : World) (ty : TypeId) (base n c : Nat) (v : Value) (xs : List Value) (hown : w.ownsRow base 3 1 v n xs) :
    (Builtin.append_ #[26, 26] ty #[v, .slice none 0 c]).run Tryz.prog w = .ok v w := by
  obtain ⟨i0, hi, hz0, hz1, hz2⟩ := info_parts Tryz.infoInt5
  rcases hown.2 with ⟨rfl, rfl⟩ | ⟨g, cap, cur, rfl, _, _, hnc, _⟩
  · simp [Builtin.append_, run_underlying Tryz.underInts5, sizeOf, typeInfo, hi, Builtin.lenOf, Builtin.firstCells]
  · simp [Builtin.append_, run_underlying Tryz.underInts5, sizeOf, typeInfo, hi, Builtin.lenOf, Builtin.firstCells, hnc, storeCells]
theorem ints_one9 (l : List Int) : ∀ u ∈ l.map (Value.int .i64), u.oneCell' = true := by
  intro u hu
  obtain ⟨z, _, rfl⟩ := List.mem_map.1 hu
  rfl
theorem more_len {α : Type} {en : Int} {item : List Tok → PR α} (hE : Eats item) : ∀ (f : Nat) (acc : List α) (l : List Tok) (xs : List α) (r : List Tok), moreP en item f acc l = .ok xs r → xs.length + r.length ≤ acc.length + l.length
  | 0, acc, l, xs, r, h => by cases h
  | f + 1, acc, l, xs, r, h => by
    unfold moreP at h
    split at h
    · rename_i hb
      obtain ⟨t, q, h1, h2⟩ := PR.bind_ok h
      obtain ⟨x, q2, h3, h4⟩ := PR.bind_ok h2
      have e1 := skip_len solid_comma h1
      have e2 := hE q x q2 h3
      have e3 := more_len hE f _ q2 xs r h4
      simp at e3
      omega
    · obtain ⟨t, q, h1, h2⟩ := PR.bind_ok h
      have e1 := skip_len solid_close h1
      cases h2
      omega
theorem reads_len {α : Type} {en : Int} {item : List Tok → PR α} (hE : Eats item) {l r : List Tok} {xs : List α} (h : readP en item l = .ok xs r) : xs.length + r.length ≤ l.length := by
  unfold readP at h
  obtain ⟨t, q, h1, h2⟩ := PR.bind_ok h
  have e1 := skip_len solid_open h1
  split at h2
  · obtain ⟨t2, q2, h3, h4⟩ := PR.bind_ok h2
    have e2 := skip_len solid_close h3
    cases h4
    simp; omega
  · obtain ⟨x, q2, h3, h4⟩ := PR.bind_ok h2
    have e2 := hE q x q2 h3
    have e3 := more_len hE _ _ q2 xs r h4
    simp at e3
    omega
/-- Numbers of one's own are appended. -/
theorem wp_append_rows9 {w : World} {o : Oper} {a : Act} {K : Act → World → Prop} {Q : Exit → Act → World → Prop} (s x : Operand)
    (ho : o.op = .call { callee := .builtin .append, args := #[s, x], argTypes := #[26, 26] }) (base : Nat)
    (v : Value) (xs : List Int) (hs : a.eval s = v) (hown : w.ownsRow base 3 1 v xs.length (xs.map (Value.int .i64)))
    (u : Value) (l : List Int) (hx : a.eval x = u) (base2 : Nat) (hl : w.ownsRow base2 3 1 u l.length (l.map (Value.int .i64))) (hn : xs.length + l.length ≤ 100000) (hbase : base ≤ w.heap.size)
    (h : ∀ v' w', w'.ownsRow base 3 1 v' (xs ++ l).length ((xs ++ l).map (Value.int .i64)) → w.grownBy w' v.ownBlock → K (a.put o.dst v') w') : o.wp Tryz.prog a w K Q := by
  obtain ⟨i0, hi, hz0, hz1, hz2⟩ := info_parts Tryz.infoInt5
  rcases hl.2 with ⟨rfl, h0⟩ | ⟨g, cap, cur, rfl, _⟩
  · have hl0 : l = [] := List.length_eq_zero_iff.1 h0
    subst hl0
    have hr := append_nothing9 w o.type base xs.length 0 v _ hown
    unfold Oper.wp execOp
    simp only [ho, resolve, invoke, builtin, Sem.run_bind, Sem.run_pure, Result.andThen_ok, List.map_toArray, List.map_cons, List.map_nil, hs, hx, hr]
    exact h v w (by rw [List.append_nil]; exact hown) ⟨rfl, rfl, rfl, Nat.le_refl _, fun _ _ _ => rfl⟩
  · refine wp_append_own w s x 26 ho base 3 i0 (.int .i64 0) 1 8 Tryz.underInts5 hi hz0 hz1 hz2 rfl (by decide) v xs.length _ hs hown ⟨g, 0, none⟩ l.length cap (l.map (Value.int .i64)) hx (by simp) ?_ (ints_one9 l) (by unfold maxLen; omega) (by omega) hbase ?_
    · exact hl.cells rfl
    · intro v' w' h1 h2 h3
      exact h v' w' (by rw [List.length_append, List.map_append]; exact h1) h2
theorem row_ne_cells {w : World} {B : Nat} {e t : TypeId} {size n g cap : Nat} {xs : List Value} (h : w.ownsRow B e size (.slice (some ⟨g, 0, none⟩) n cap) n xs) {C : Nat} {cs : Array Value} (hC : w.heap[C]? = some (.cells cs t)) (ht : t ≠ e) : C ≠ g := by
  rcases h.2 with ⟨hn, _⟩ | ⟨g', cap', cur, hv, _, hh, _⟩
  · cases hn
  · simp only [Value.slice.injEq, Option.some.injEq, Addr.mk.injEq, and_true, true_and] at hv
    obtain ⟨rfl, rfl⟩ := hv
    intro e1
    rw [e1, hh] at hC
    injection hC with h1
    injection h1 with _ h2
    exact ht h2.symm
theorem ConS.append8 {N R M : Nat} {en : Int} {names : List ByteArray} {w0 : World} {C g : Nat} {w w' : World} {q : List Tok} {a : Int} {vs : List Int} {v' : Value} (h : ConS N R M en names w0 C w q (.slice (some ⟨g, 0, none⟩) 1 1) (.slice none 0 0) (.slice none 0 0) (.slice none 0 0) ⟨8, [a], [], 0, [], []⟩)
    (hown : w'.ownsRow w0.heap.size 3 1 v' ([a] ++ vs).length (([a] ++ vs).map (Value.int .i64))) (hg : w.grownBy w' (some g)) :
    ConS N R M en names w0 C (w'.setCell ⟨C, 1, none⟩ v') q v' (.slice none 0 0) (.slice none 0 0) (.slice none 0 0) ⟨8, [a] ++ vs, [], 0, [], []⟩ ∧ w'.heap[C]? = some (.cells #[.int .i64 8, .slice (some ⟨g, 0, none⟩) 1 1, .slice none 0 0, .int .i64 0, .slice none 0 0, .slice none 0 0] 73) := by
  have hgl := h.own.1.lt g rfl
  have e1 : C ≠ g := row_ne_cells h.own.1 h.con (by decide)
  have e2 : w0.heap.size ≠ g := row_ne_cells h.own.1 h.res (by decide)
  have hcon := (hg.block C (Array.getElem?_eq_some_iff.1 h.con).1 (fun e => e1 (Option.some.inj e))).trans h.con
  refine ⟨?_, hcon⟩
  exact {
    rd := (h.rd.grown hg (fun k hk => by cases hk; have := h.Rw; have := h.Nw; omega)).set (p := ⟨C, 1, none⟩) (by have := h.Rw; have := h.lt; show C ≠ R; omega) (by have := h.Nw; have := h.lt; show N ≤ C; omega) _
    fr := (h.fr.grown hg (fun k hk => by cases hk; exact Or.inr hgl.1)).setNew (p := ⟨C, 1, none⟩) (Nat.le_of_lt h.lt) _
    nm := (h.nm.old (hg.block M h.nm.lt (fun e => by have := Option.some.inj e; have := h.Mw; omega))).old (Below.heap_setCell _ _ _ _ (by have := h.Mw; have := h.lt; show M ≠ C; omega))
    res := (Below.heap_setCell _ _ _ _ (by have := h.lt; show w0.heap.size ≠ C; omega)).trans ((hg.block _ (Array.getElem?_eq_some_iff.1 h.res).1 (fun e => e2 (Option.some.inj e))).trans h.res)
    con := by rw [heap_setCell_same w' C 1 _ _ _ hcon]; rfl
    lt := h.lt
    Rw := h.Rw
    Nw := h.Nw
    Mw := h.Mw
    own := ⟨own_set hown hcon (by decide) 1 v', World.ownsRow_nil _ _ _ _, LSr.none _ _ _, World.ownsRow_nil _ _ _ _⟩ }

set_option maxHeartbeats 1600000 in
set_option maxRecDepth 100000 in
theorem con_8 (N R M : Nat) (en : Int) (names : List ByteArray) (w : World) (l : List Tok) (h : Rd N R M en w l) (hn : NmS w M names) (hne : ∀ n ∈ names, n.data.toList ≠ []) (t1 : Tok) (q1 q2 : List Tok)
    (hs1 : skipP en conW l = .ok t1 q1) (hs2 : oneOfP en conWL q1 = .ok 8 q2) :
    Calls Tryz.prog 177 #[.pointer (some ⟨R, 0, none⟩)] w (PostR (conP en names l) (GC w.heap.size) N R M en (fun k => k = R) w) := by
  have HB : Hid (Rd N R M en w l) := h
  have HN : Hid (NmS w M names) := hn
  have HNE : Hid (∀ n ∈ names, n.data.toList ≠ []) := hne
  have HS1 : Hid (skipP en conW l = .ok t1 q1) := hs1
  have HS2 : Hid (oneOfP en conWL q1 = .ok 8 q2) := hs2
  have hRw : R < w.heap.size := by obtain ⟨_, _, hR, _⟩ := h; exact (Array.getElem?_eq_some_iff.1 hR).1
  obtain ⟨P, hP⟩ : ∃ P, conP en names l = P := ⟨_, rfl⟩
  have HP : Hid (P = ((nameP en names q2).bind fun a l => (readP en (nameP en names) l).bind fun vs l => .ok ⟨8, [a] ++ vs, [], 0, [], []⟩ l).bind fun c l => (skipP en semiW l).bind fun _ l => .ok c l) := by
    show _ = _; rw [← hP]; unfold conP; rw [hs1]; show ((oneOfP en conWL q1).bind _) = _; rw [hs2]; show (bodyP en names 8 q2).bind _ = _; rw [(show bodyP en names 8 q2 = (nameP en names q2).bind fun a l => (readP en (nameP en names) l).bind fun vs l => .ok ⟨8, [a] ++ vs, [], 0, [], []⟩ l by simp [bodyP])]
  rw [hP]
  clear h hP hn hne hs1 hs2
  go_enter Tryz.func177, Tryz.ntmps177
  go_wp2_with fail
  have HR0 := HB.out.below (below_alloc w (.cells #[.int .i64 0, .slice none 0 0, .slice none 0 0, .int .i64 0, .slice none 0 0, .slice none 0 0] 73))
  have HQ0 : (w.alloc (.cells #[.int .i64 0, .slice none 0 0, .slice none 0 0, .int .i64 0, .slice none 0 0, .slice none 0 0] 73)).heap[w.heap.size]? = some (.cells #[.int .i64 0, .slice none 0 0, .slice none 0 0, .int .i64 0, .slice none 0 0, .slice none 0 0] 73) := by show (w.heap.push _)[w.heap.size]? = _; simp
  have HBA := below_alloc w (.cells #[.int .i64 0, .slice none 0 0, .slice none 0 0, .int .i64 0, .slice none 0 0, .slice none 0 0] 73)
  refine (rskip_any N R M en conW solid_con _ l HR0).mono ?_
  intro e w1 hp
  rw [HS1.out] at hp
  obtain ⟨v, rfl, rfl, hrd1, hfr1⟩ := hp
  have HR1 : Hid (Rd N R M en w1 q1) := hrd1
  have HF1 : Hid (Fr (fun k => k = R) w w1) := (Fr.below HBA).trans hfr1
  have HQ1 : Hid (w1.heap[w.heap.size]? = some (.cells #[.int .i64 0, .slice none 0 0, .slice none 0 0, .int .i64 0, .slice none 0 0, .slice none 0 0] 73)) := (hfr1.block _ (by simp) (by omega)).trans HQ0
  clear HR0 HQ0 HBA hrd1 hfr1
  go_wp2_with fail
  refine (words_cons w1).mono ?_
  rintro e w2 ⟨sv, rfl, hsv, hb2⟩
  have HSV : Hid (SArg w2 sv conWL) := hsv
  obtain ⟨as_, cs_, rfl, _, _⟩ := hsv
  have HR2 : Hid (Rd N R M en w2 q1) := HR1.out.below hb2
  have HF2 : Hid (Fr (fun k => k = R) w w2) := HF1.out.trans (Fr.below hb2)
  have HQ2 : Hid (w2.heap[w.heap.size]? = some (.cells #[.int .i64 0, .slice none 0 0, .slice none 0 0, .int .i64 0, .slice none 0 0, .slice none 0 0] 73)) := (hb2.block _ (Array.getElem?_eq_some_iff.1 HQ1.out).1).trans HQ1.out
  clear hb2
  go_wp2_with fail
  refine (oneof_any N R M en conWL _ w2 q1 HR2.out HSV.out).mono ?_
  intro e w3 hp
  rw [HS2.out] at hp
  obtain ⟨v, rfl, rfl, hrd3, hfr3⟩ := hp
  have HS : Hid (ConS N R M en names w w3.heap.size (w3.alloc (.cells #[.int .i64 8, .slice none 0 0, .slice none 0 0, .int .i64 0, .slice none 0 0, .slice none 0 0] 73)) q2 (.slice none 0 0) (.slice none 0 0) (.slice none 0 0) (.slice none 0 0) ⟨8, [], [], 0, [], []⟩) := by
    have hbq := below_alloc w3 (.cells #[.int .i64 8, .slice none 0 0, .slice none 0 0, .int .i64 0, .slice none 0 0, .slice none 0 0] 73)
    have hlt : w.heap.size < w3.heap.size := Nat.lt_of_lt_of_le (Array.getElem?_eq_some_iff.1 HQ2.out).1 hfr3.size
    have hfr := (HF2.out.trans hfr3).trans (Fr.below hbq)
    exact ⟨hrd3.below hbq, hfr, HN.out.old (hfr.block M HN.out.lt HB.out.1.2.2), (hbq.block _ hlt).trans ((hfr3.block _ (Array.getElem?_eq_some_iff.1 HQ2.out).1 (by omega)).trans HQ2.out), by show (w3.heap.push _)[w3.heap.size]? = _; simp, hlt, hRw, HB.out.1.2.1, HN.out.lt, ConR.none _ _ _⟩
  clear hrd3 hfr3 HR1 HR2 HF1 HF2 HQ1 HQ2
  skip
  go_wp2_with fail
  refine (name_any N R M en names _ q2 HS.out.rd HS.out.nm HNE.out).mono ?_
  intro e w4 hp
  cases hs : nameP en names q2 with
  | bad x er =>
    rw [hs] at hp
    obtain ⟨rfl, hfr⟩ := hp
    have hfr2 := HS.out.fr.trans hfr
    have HPB : Hid (P = .bad x er) := by show _ = _; rw [HP.out, hs]; rfl
    clear hs hfr
    go_wp2
    exact ⟨rfl, by rw [HPB.out]; exact ⟨rfl, hfr2⟩⟩
  | ok a q3 =>
    rw [hs] at hp
    obtain ⟨v4, rfl, rfl, hrd, hfr⟩ := hp
    have HT : Hid (ConS N R M en names w w3.heap.size w4 q3 (.slice none 0 0) (.slice none 0 0) (.slice none 0 0) (.slice none 0 0) ⟨8, [], [], 0, [], []⟩) := HS.out.call hfr hrd
    clear HS
    have HS := HT
    clear HT
    have HPN : Hid (P = ((readP en (nameP en names) q3).bind fun vs l => .ok ⟨8, [a] ++ vs, [], 0, [], []⟩ l).bind fun c l => (skipP en semiW l).bind fun _ l => .ok c l) := by show _ = _; rw [HP.out, hs]; rfl
    clear HP
    have HP := HPN
    clear HPN hs hrd hfr
    have r1 := blk9 HS.out.con 1 _ rfl
    have z1 := frz9 HS.out.con 1
    have hCl : w3.heap.size < w4.heap.size := (Array.getElem?_eq_some_iff.1 HS.out.con).1
    have HT : Hid (ConS N R M en names w w3.heap.size ((w4.setCell ⟨w3.heap.size, 1, none⟩ (.slice (some ⟨w4.heap.size, 0, none⟩) 1 1)).alloc (.cells #[.int .i64 a] 3)) q3 (.slice (some ⟨w4.heap.size, 0, none⟩) 1 1) (.slice none 0 0) (.slice none 0 0) (.slice none 0 0) ⟨8, [a], [], 0, [], []⟩) := HS.out.varsLit [a] (by simp)
    clear HS
    have HS := HT
    clear HT
    go_wp2_with fail
    obtain ⟨W, hW⟩ : ∃ W, ((w4.setCell ⟨w3.heap.size, 1, none⟩ (.slice (some ⟨w4.heap.size, 0, none⟩) 1 1)).alloc (.cells #[.int .i64 a] 3)) = W := ⟨_, rfl⟩
    rw [hW] at HS ⊢
    have c1 : W.cell? ⟨w3.heap.size, 1, none⟩ = some (.slice (some ⟨w4.heap.size, 0, none⟩) 1 1) := blk9 HS.out.con 1 _ rfl
    clear hW r1 z1
    have HSD : Hid (ConS N R M en names w w3.heap.size W.drew q3 (.slice (some ⟨w4.heap.size, 0, none⟩) 1 1) (.slice none 0 0) (.slice none 0 0) (.slice none 0 0) ⟨8, [a], [], 0, [], []⟩) := HS.out.below (Below.refl _ _).drew
    have hvar := variables_any N R M en names W.drew q3 HSD.out.rd HSD.out.nm HNE.out
    cases hs : readP en (nameP en names) q3 with
    | bad x er =>
      have HPB : Hid (P = .bad x er) := by show _ = _; rw [HP.out, hs]; rfl
      rw [hs] at hvar
      clear hs
      refine wp_region_held_drew (S := fun w' => w' = W.drew) (by kernel_rfl) rfl (fun hHeld => ?_)
      refine wpAnyH_take (i := 0) (v := ?v0) rfl (by kernel_rfl) (by kernel_rfl) (by kernel_rfl) (fun _ _ _ h => h) (Or.inl ⟨by rfl, ?y0⟩) rfl ?r0
      case y0 => intro wq hSw; subst hSw; go_simp; with_reducible rfl
      refine wpAnyH_take (i := 1) (v := ?v1) rfl (by kernel_rfl) (by kernel_rfl) (by kernel_rfl) (fun _ _ _ h => h) (Or.inl ⟨by rfl, ?y1⟩) rfl ?r1
      case y1 => intro wq hSw; subst hSw; go_simp; with_reducible rfl
      refine wpAnyH_take (i := 2) (v := ?v2) rfl (by kernel_rfl) (by kernel_rfl) (by kernel_rfl) (fun _ _ _ h => h) (Or.inl ⟨by rfl, ?y2⟩) rfl ?r2
      case y2 => intro wq hSw; subst hSw; go_simp; with_reducible rfl
      refine wpAnyH_ready (rs := [3]) (by kernel_rfl) (by simp) ?_
      refine AllReadyH.cons rfl (fun K hK => ?_) AllReadyH.nil
      clear hK
      go_simp
      refine hvar.mono ?_
      rintro e w5 ⟨rfl, hfr⟩
      have hfr2 := HSD.out.fr.trans hfr
      clear hvar hfr
      go_wp2
      exact ⟨rfl, by rw [HPB.out]; exact ⟨rfl, hfr2⟩⟩
    | ok vs q4 =>
      have HPN : Hid (P = (skipP en semiW q4).bind fun _ l => .ok ⟨8, [a] ++ vs, [], 0, [], []⟩ l) := by show _ = _; rw [HP.out, hs]; rfl
      rw [hs] at hvar
      have HVL : Hid (vs.length ≤ 4000) := by have h1 := reads_len (eats_name en names) hs; have h2 := HS.out.rd.len; show _ ≤ _; omega
      clear hs HP
      obtain ⟨vn, hvn⟩ : ∃ vn, [a] ++ vs = vn := ⟨_, rfl⟩
      have HVN : Hid ([a] ++ vs = vn) := hvn
      rw [hvn] at HPN
      clear hvn
      go_region_law
        (first
          | (rw [if_pos (by rfl)]; refine wp_append_rows9 _ _ rfl w.heap.size _ [a] rfl HT.own.1 _ vs rfl _ ho5 ?_ ?_ ?_; (have := HVL.out; simp; omega); exact HT.base; intro v6 w6 hown6 hg6; have HU := HT.append8 hown6 hg6; rw [HVN.out] at hown6 HU; have d1 := blk9 HU.2 1 _ rfl; have z1 := frz9 HU.2 1; obtain ⟨a6, b6, hv6⟩ := own_form hown6; subst hv6)
          | (rw [if_pos (by rfl)]; go_simp; go_at_call 241; refine hvar.mono ?_; rintro e w5 ⟨v5, rfl, ⟨ho5, _⟩, hrd5, hfr5⟩; have HT := HSD.out.call hfr5 hrd5; have c5 := blk9 HT.con 1 _ rfl; obtain ⟨a5, d5, hv5⟩ := own_form ho5; subst hv5; dsimp only))
      all_goals
        have HSN : Hid (ConS N R M en names w w3.heap.size (w6.setCell ⟨w3.heap.size, 1, none⟩ (.slice a6 vn.length b6)) q4 (.slice a6 vn.length b6) (.slice none 0 0) (.slice none 0 0) (.slice none 0 0) ⟨8, vn, [], 0, [], []⟩) := HU.1
        clear HS HT HU hg6 d1 z1 hown6 hvar c5 ho5 HSD HVL hrd5 hfr5 c1 HVN
        go_wp2_with fail
        refine (rskip_any N R M en semiW solid_semi _ q4 HSN.out.rd).mono ?_
        intro e w7 hp
        cases hs : skipP en semiW q4 with
        | bad x er =>
          rw [hs] at hp
          obtain ⟨rfl, hfr⟩ := hp
          have hfr2 := HSN.out.fr.trans hfr
          have HPB : Hid (P = .bad x er) := by show _ = _; rw [HPN.out, hs]; rfl
          clear hs hfr
          go_wp2
          exact ⟨rfl, by rw [HPB.out]; exact ⟨rfl, hfr2⟩⟩
        | ok t9 q9 =>
          rw [hs] at hp
          obtain ⟨v, rfl, rfl, hrd, hfr⟩ := hp
          have HT : Hid (ConS N R M en names w w3.heap.size w7 q9 (.slice a6 vn.length b6) (.slice none 0 0) (.slice none 0 0) (.slice none 0 0) ⟨8, vn, [], 0, [], []⟩) := HSN.out.call hfr hrd
          have HPE : Hid (P = .ok ⟨8, vn, [], 0, [], []⟩ q9) := by show _ = _; rw [HPN.out, hs]; rfl
          clear HPN HSN hs hrd hfr
          have a0 := blk9 HT.out.con 0 _ rfl
          have a1 := blk9 HT.out.con 1 _ rfl
          have a2 := blk9 HT.out.con 2 _ rfl
          have a3 := blk9 HT.out.con 3 _ rfl
          have a4 := blk9 HT.out.con 4 _ rfl
          have a5 := blk9 HT.out.con 5 _ rfl
          have b0 := blk9 HT.out.res 0 _ rfl
          have b1 := blk9 HT.out.res 1 _ rfl
          have b2 := blk9 HT.out.res 2 _ rfl
          have b3 := blk9 HT.out.res 3 _ rfl
          have b4 := blk9 HT.out.res 4 _ rfl
          have b5 := blk9 HT.out.res 5 _ rfl
          have z0 := frz9 HT.out.res 0
          have z1 := frz9 HT.out.res 1
          have z2 := frz9 HT.out.res 2
          have z3 := frz9 HT.out.res 3
          have z4 := frz9 HT.out.res 4
          have z5 := frz9 HT.out.res 5
          go_wp2
          refine bodyPost_ret (by simp [results, Tryz.results177, go_sem, *]; try rfl) rfl ?_
          rw [HPE.out]
          obtain ⟨e1, e2, e3⟩ := HT.out.endd _ _ _ _ _ _ _ rfl
          exact ⟨_, rfl, ⟨_, _, _, _, rfl, e1⟩, e2, e3⟩
end Go.Proofs.YtdjbejlbmaiocagGreatDoor
/-
  WALK: package text: the reader: con, whatever kind.
-/
namespace Go.Proofs.YtdjbejlbmaiocagGreatDoor
open Go.RowKit

set_option maxHeartbeats 1600000 in
set_option maxRecDepth 100000 in
theorem rcon_any (N R M : Nat) (en : Int) (names : List ByteArray) (w : World) (l : List Tok) (h : Rd N R M en w l) (hn : NmS w M names) (hne : ∀ n ∈ names, n.data.toList ≠ []) :
    Calls Tryz.prog 177 #[.pointer (some ⟨R, 0, none⟩)] w (PostR (conP en names l) (GC w.heap.size) N R M en (fun k => k = R) w) := by
  cases hs1 : skipP en conW l with
  | bad x er =>
    have HPB : Hid (conP en names l = .bad x er) := by show _ = _; unfold conP; rw [hs1]; rfl
    have HB : Hid (Rd N R M en w l) := h
    have HS1 : Hid (skipP en conW l = .bad x er) := hs1
    rw [HPB.out]
    clear h hn hne hs1
    go_enter Tryz.func177, Tryz.ntmps177
    go_wp2_with fail
    have HR0 := HB.out.below (below_alloc w (.cells #[.int .i64 0, .slice none 0 0, .slice none 0 0, .int .i64 0, .slice none 0 0, .slice none 0 0] 73))
    refine (rskip_any N R M en conW solid_con _ l HR0).mono ?_
    intro e w1 hp
    rw [HS1.out] at hp
    obtain ⟨rfl, hfr⟩ := hp
    have hfr2 := (Fr.below (X := fun k => k = R) (below_alloc w (.cells #[.int .i64 0, .slice none 0 0, .slice none 0 0, .int .i64 0, .slice none 0 0, .slice none 0 0] 73))).trans hfr
    clear hfr HR0
    go_wp2
    exact ⟨rfl, rfl, hfr2⟩
  | ok t1 q1 =>
    cases hs2 : oneOfP en conWL q1 with
    | bad x er =>
      have HPB : Hid (conP en names l = .bad x er) := by show _ = _; unfold conP; rw [hs1]; show ((oneOfP en conWL q1).bind _) = _; rw [hs2]; rfl
      have HB : Hid (Rd N R M en w l) := h
      have HS1 : Hid (skipP en conW l = .ok t1 q1) := hs1
      have HS2 : Hid (oneOfP en conWL q1 = .bad x er) := hs2
      rw [HPB.out]
      clear h hn hne hs1 hs2
      go_enter Tryz.func177, Tryz.ntmps177
      go_wp2_with fail
      have HR0 := HB.out.below (below_alloc w (.cells #[.int .i64 0, .slice none 0 0, .slice none 0 0, .int .i64 0, .slice none 0 0, .slice none 0 0] 73))
      refine (rskip_any N R M en conW solid_con _ l HR0).mono ?_
      intro e w1 hp
      rw [HS1.out] at hp
      obtain ⟨v, rfl, rfl, hrd, hfr⟩ := hp
      have HR1 : Hid (Rd N R M en w1 q1) := hrd
      have HF1 : Hid (Fr (fun k => k = R) w w1) := (Fr.below (X := fun k => k = R) (below_alloc w (.cells #[.int .i64 0, .slice none 0 0, .slice none 0 0, .int .i64 0, .slice none 0 0, .slice none 0 0] 73))).trans hfr
      clear hfr hrd HR0
      go_wp2_with fail
      refine (words_cons w1).mono ?_
      rintro e w2 ⟨sv, rfl, hsv, hb2⟩
      have HSV : Hid (SArg w2 sv conWL) := hsv
      obtain ⟨as_, cs_, rfl, _, _⟩ := hsv
      have HR2 : Hid (Rd N R M en w2 q1) := HR1.out.below hb2
      have HF2 : Hid (Fr (fun k => k = R) w w2) := HF1.out.trans (Fr.below hb2)
      clear hb2
      go_wp2_with fail
      refine (oneof_any N R M en conWL _ w2 q1 HR2.out HSV.out).mono ?_
      intro e w3 hp
      rw [HS2.out] at hp
      obtain ⟨rfl, hfr⟩ := hp
      have hfr2 := HF2.out.trans hfr
      clear hfr
      go_wp2
      exact ⟨rfl, rfl, hfr2⟩
    | ok k q2 =>
      by_cases k1 : k = 1
      · subst k1; exact con_1 N R M en names w l h hn hne t1 q1 q2 hs1 hs2
      by_cases k2 : k = 2
      · subst k2; exact con_2 N R M en names w l h hn hne t1 q1 q2 hs1 hs2
      by_cases k3 : k = 3
      · subst k3; exact con_3 N R M en names w l h hn hne t1 q1 q2 hs1 hs2
      by_cases k4 : k = 4
      · subst k4; exact con_4 N R M en names w l h hn hne t1 q1 q2 hs1 hs2
      by_cases k5 : k = 5
      · subst k5; exact con_5 N R M en names w l h hn hne t1 q1 q2 hs1 hs2
      by_cases k6 : k = 6
      · subst k6; exact con_6 N R M en names w l h hn hne t1 q1 q2 hs1 hs2
      by_cases k7 : k = 7
      · subst k7; exact con_7 N R M en names w l h hn hne t1 q1 q2 hs1 hs2
      by_cases k8 : k = 8
      · subst k8; exact con_8 N R M en names w l h hn hne t1 q1 q2 hs1 hs2
      by_cases k9 : k = 9
      · subst k9; exact con_9 N R M en names w l h hn hne t1 q1 q2 hs1 hs2
      by_cases k10 : k = 10
      · subst k10; exact con_10 N R M en names w l h hn hne t1 q1 q2 hs1 hs2
      have f : ∀ i : Int, ¬ k = i → (k == i) = false := fun i h => by simpa using h
      exact con_other N R M en names w l h hn hne t1 q1 q2 k ⟨f _ k1, f _ k2, f _ k3, f _ k4, f _ k5, f _ k6, f _ k7, f _ k8, f _ k9, f _ k10⟩ hs1 hs2
end Go.Proofs.YtdjbejlbmaiocagGreatDoor
/-
  A model that is being read, in memory.
-/
namespace Go.Proofs.YtdjbejlbmaiocagGreatDoor
open Go.RowKit

def varC (v : MVar) : List Value := [.string v.name, .int .i64 v.lo, .int .i64 v.hi]
def conC (vv vc vr vl : Value) (c : MCon) : List Value := [.int .i64 c.kind, vv, vc, .int .i64 c.n, vr, vl]
theorem apart9 {w : World} {b1 b2 n1 n2 s1 s2 : Nat} {e1 e2 : TypeId} {x v : Value} {xs vs : List Value} (h : w.ownsRow b1 e1 s1 x n1 xs) (k : w.ownsRow b2 e2 s2 v n2 vs) (he : e1 ≠ e2) : x.ownBlock = none ∨ x.ownBlock ≠ v.ownBlock := by
  rcases h.2 with ⟨rfl, _⟩ | ⟨g, cap, cur, rfl, _, hg, _⟩
  · exact .inl rfl
  · refine .inr fun e => ?_
    rcases k.2 with ⟨rfl, _⟩ | ⟨g', cap', cur', rfl, _, hg', _⟩
    · cases e
    · have : g = g' := Option.some.inj e
      subst this
      rw [hg] at hg'
      injection hg' with h2
      injection h2 with _ h3
      exact he h3
section
variable {B : Nat} {w w' : World}
theorem LSr.kept {b2 n s : Nat} {e : TypeId} {v x : Value} {xs : List Value} {acc : List (List Int)} {o : Obj} (h : LSr B B w x acc) (k : w.ownsRow b2 e s v n xs) (he1 : 3 ≠ e) (he2 : 26 ≠ e) (hg : (w.alloc o).grownBy w' v.ownBlock) : LSr B B w' x acc := by
  obtain ⟨cells, h1, h2⟩ := h
  refine ⟨cells, (h1.alloc _).kept hg (apart9 h1 k he2), fun i r hr => ?_⟩
  obtain ⟨y, hy, ho⟩ := h2 i r hr
  exact ⟨y, hy, (ho.alloc _).kept hg (apart9 ho k he1)⟩
theorem ConR.kept {b2 n s : Nat} {e : TypeId} {v : Value} {xs : List Value} {vv vc vr vl : Value} {c : MCon} {o : Obj} (h : ConR B w vv vc vr vl c) (k : w.ownsRow b2 e s v n xs) (he1 : 3 ≠ e) (he2 : 26 ≠ e) (he3 : 88 ≠ e) (hg : (w.alloc o).grownBy w' v.ownBlock) : ConR B w' vv vc vr vl c :=
  ⟨(h.1.alloc _).kept hg (apart9 h.1 k he1), (h.2.1.alloc _).kept hg (apart9 h.2.1 k he1), h.2.2.1.kept k he1 he2 hg, (h.2.2.2.alloc _).kept hg (apart9 h.2.2.2 k he3)⟩
end
/-- Constraints that are being gathered. -/
def LCr (B : Nat) (w : World) (v : Value) (acc : List MCon) : Prop :=
  ∃ cells, w.ownsRow B 73 6 v acc.length cells ∧ ∀ (i : Nat) (c : MCon), acc[i]? = some c → ∃ vv vc vr vl, (∀ j, j < 6 → cells[i * 6 + j]? = (conC vv vc vr vl c)[j]?) ∧ ConR B w vv vc vr vl c
theorem LCr.none (B : Nat) (w : World) : LCr B w (.slice Option.none 0 0) [] := ⟨[], World.ownsRow_nil _ _ _ _, fun i r h => by simp at h⟩
theorem LCr.form {B : Nat} {w : World} {v : Value} {acc : List MCon} (h : LCr B w v acc) : ∃ a c, v = .slice a acc.length c := by
  obtain ⟨cells, h1, _⟩ := h
  exact own_form h1
theorem LCr.fr {X : Nat → Prop} {B : Nat} {w w' : World} {v : Value} {acc : List MCon} (h : LCr B w v acc) (hf : Fr X w w') (hX : ∀ k, X k → k < B) : LCr B w' v acc := by
  obtain ⟨cells, h1, h2⟩ := h
  refine ⟨cells, own_fr h1 hf hX, fun i r hr => ?_⟩
  obtain ⟨vv, vc, vr, vl, hc, ho⟩ := h2 i r hr
  exact ⟨vv, vc, vr, vl, hc, ho.fr hf hX⟩
theorem ConR.set2 {B : Nat} {w : World} {vv vc vr vl : Value} {c : MCon} {t : TypeId} (h : ConR B w vv vc vr vl c) {C : Nat} {cs : Array Value} (hC : w.heap[C]? = some (.cells cs t)) (h1 : t ≠ 3) (h2 : t ≠ 26) (h3 : t ≠ 88) (i : Nat) (u : Value) : ConR B (w.setCell ⟨C, i, Option.none⟩ u) vv vc vr vl c :=
  ⟨own_set h.1 hC h1 i u, own_set h.2.1 hC h1 i u, h.2.2.1.set hC h1 h2 i u, own_set h.2.2.2 hC h3 i u⟩
theorem LCr.set {B : Nat} {w : World} {v : Value} {acc : List MCon} (h : LCr B w v acc) {C : Nat} {cs : Array Value} (hC : w.heap[C]? = some (.cells cs 25)) (i : Nat) (u : Value) : LCr B (w.setCell ⟨C, i, Option.none⟩ u) v acc := by
  obtain ⟨cells, h1, h2⟩ := h
  refine ⟨cells, own_set h1 hC (by decide) i u, fun j r hr => ?_⟩
  obtain ⟨vv, vc, vr, vl, hc, ho⟩ := h2 j r hr
  exact ⟨vv, vc, vr, vl, hc, ho.set2 hC (by decide) (by decide) (by decide) i u⟩
theorem LCr.push {B : Nat} {w w' : World} {v v' vv vc vr vl : Value} {c : MCon} {acc : List MCon} {cells : List Value} {o : Obj} (h : w.ownsRow B 73 6 v acc.length cells)
    (hc : ∀ (i : Nat) (c : MCon), acc[i]? = some c → ∃ vv vc vr vl, (∀ j, j < 6 → cells[i * 6 + j]? = (conC vv vc vr vl c)[j]?) ∧ ConR B w vv vc vr vl c) (hx : ConR B w vv vc vr vl c)
    (h' : w'.ownsRow B 73 6 v' (acc.length + 1) (cells ++ conC vv vc vr vl c)) (hg : (w.alloc o).grownBy w' v.ownBlock) : LCr B w' v' (acc ++ [c]) := by
  have hlen : cells.length = acc.length * 6 := h.1
  refine ⟨cells ++ conC vv vc vr vl c, by rw [List.length_append]; exact h', fun i r hr => ?_⟩
  by_cases hi : i < acc.length
  · rw [List.getElem?_append_left hi] at hr
    obtain ⟨x1, x2, x3, x4, hy, ho⟩ := hc i r hr
    exact ⟨x1, x2, x3, x4, fun j hj => by rw [List.getElem?_append_left (by omega)]; exact hy j hj, ho.kept h (by decide) (by decide) (by decide) hg⟩
  · rw [List.getElem?_append_right (by omega)] at hr
    have hi0 : i - acc.length = 0 := by
      have := (List.getElem?_eq_some_iff.1 hr).1
      simp at this; omega
    rw [hi0] at hr
    cases hr
    refine ⟨vv, vc, vr, vl, fun j hj => ?_, hx.kept h (by decide) (by decide) (by decide) hg⟩
    rw [List.getElem?_append_right (by omega), show i * 6 + j - cells.length = j by omega]
/-- What is so while a model is read. -/
structure ModSt (N R M : Nat) (en : Int) (w0 w : World) (q : List Tok) (names : List ByteArray) (vs cs : Value) (vars : List MVar) (cons : List MCon) : Prop where
  rd : Rd N R M en w q
  fr : Fr (XRM R M) w0 w
  nm : NmS w M names
  res : w.heap[w0.heap.size]? = some (.cells #[.slice none 0 0, .slice none 0 0, .int .i64 0, .int .i64 0] 25)
  mod : w.heap[w0.heap.size + 1]? = some (.cells #[vs, cs, .int .i64 0, .int .i64 0] 25)
  Rw : R < w0.heap.size
  Nw : N ≤ w0.heap.size
  Mw : M < w0.heap.size
  NM : N ≤ M
  vown : w.ownsRow w0.heap.size 71 3 vs vars.length (vars.flatMap varC)
  cown : LCr w0.heap.size w cs cons
section
variable {N R M : Nat} {en : Int} {names names' : List ByteArray} {w0 : World} {w w' : World} {q q' : List Tok} {vs cs v' : Value} {vars : List MVar} {cons : List MCon}
theorem ModSt.xlt (h : ModSt N R M en w0 w q names vs cs vars cons) : ∀ k, XRM R M k → k < w0.heap.size := fun k hk => by
  have h1 := h.Rw
  have h2 := h.Mw
  rcases hk with rfl | rfl <;> omega
theorem ModSt.call (h : ModSt N R M en w0 w q names vs cs vars cons) (hf : Fr (XRM R M) w w') (hrd : Rd N R M en w' q') (hnm : NmS w' M names') : ModSt N R M en w0 w' q' names' vs cs vars cons where
  rd := hrd
  fr := h.fr.trans hf
  nm := hnm
  res := (hf.block _ (Array.getElem?_eq_some_iff.1 h.res).1 (fun hx => by have := h.xlt _ hx; omega)).trans h.res
  mod := (hf.block _ (Array.getElem?_eq_some_iff.1 h.mod).1 (fun hx => by have := h.xlt _ hx; omega)).trans h.mod
  Rw := h.Rw
  Nw := h.Nw
  Mw := h.Mw
  NM := h.NM
  vown := own_fr h.vown hf h.xlt
  cown := h.cown.fr hf h.xlt
theorem ModSt.callR (h : ModSt N R M en w0 w q names vs cs vars cons) (hf : Fr (fun k => k = R) w w') (hrd : Rd N R M en w' q') : ModSt N R M en w0 w' q' names vs cs vars cons :=
  h.call hf.toRM hrd (h.nm.old (hf.block M h.nm.lt hrd.1.2.2))
theorem ModSt.below (h : ModSt N R M en w0 w q names vs cs vars cons) (hb : Below w.heap.size w w') : ModSt N R M en w0 w' q names vs cs vars cons := h.callR (Fr.below hb) (h.rd.below hb)
theorem ModSt.base (h : ModSt N R M en w0 w q names vs cs vars cons) : w0.heap.size ≤ w.heap.size := h.fr.size
theorem flat_snoc {α : Type} (f : α → List Value) (l : List α) (x : α) : (l ++ [x]).flatMap f = l.flatMap f ++ f x := by simp
/-- A row of the model's has grown; its new value is stored. -/
theorem ModSt.grown (h : ModSt N R M en w0 w q names vs cs vars cons) {v : Value} {n s : Nat} {e : TypeId} {xs : List Value} {o : Obj} (hv : w.ownsRow w0.heap.size e s v n xs) (he : 25 ≠ e) (hg : (w.alloc o).grownBy w' v.ownBlock) (i : Nat) (vs2 cs2 : Value) (vars2 : List MVar) (cons2 : List MCon)
    (hcs : (#[vs, cs, .int .i64 0, .int .i64 0] : Array Value).setIfInBounds i v' = #[vs2, cs2, .int .i64 0, .int .i64 0])
    (ho1 : w'.ownsRow w0.heap.size 71 3 vs2 vars2.length (vars2.flatMap varC)) (ho2 : LCr w0.heap.size w' cs2 cons2) :
    w'.heap[w0.heap.size + 1]? = some (.cells #[vs, cs, .int .i64 0, .int .i64 0] 25) ∧ ModSt N R M en w0 (w'.setCell ⟨w0.heap.size + 1, i, none⟩ v') q names vs2 cs2 vars2 cons2 := by
  have hlt : ∀ g, v.ownBlock = some g → w0.heap.size ≤ g ∧ g < w.heap.size := hv.lt
  have hap : ∀ (C : Nat) (cs : Array Value), w.heap[C]? = some (.cells cs 25) → some C ≠ v.ownBlock := by
    intro C cs hC e1
    rcases hv.2 with ⟨rfl, _⟩ | ⟨g, cap, cur, rfl, _, hh, _⟩
    · cases e1
    · have : C = g := Option.some.inj e1
      subst this
      rw [hh] at hC
      injection hC with h2
      injection h2 with _ h3
      exact he h3.symm
  have hlo : ∀ k, k < w0.heap.size → some k ≠ v.ownBlock := fun k hk e1 => by have := (hlt k e1.symm).1; omega
  have hkeep : ∀ k, k < w.heap.size → some k ≠ v.ownBlock → w'.heap[k]? = w.heap[k]? := fun k hk hne => (hg.block k (by simp; omega) hne).trans ((below_alloc w o).block k hk)
  have hres := (hkeep _ (Array.getElem?_eq_some_iff.1 h.res).1 (hap _ _ h.res)).trans h.res
  have hmod := (hkeep _ (Array.getElem?_eq_some_iff.1 h.mod).1 (hap _ _ h.mod)).trans h.mod
  have hRw := h.Rw
  have hMw := h.Mw
  have hNw := h.Nw
  have hsz := h.base
  refine ⟨hmod, ?_⟩
  exact {
    rd := ((h.rd.below (below_alloc w o)).grown hg (fun k hk => by have := (hlt k hk).1; omega)).set (p := ⟨w0.heap.size + 1, i, none⟩) (by show w0.heap.size + 1 ≠ R; omega) (by show N ≤ w0.heap.size + 1; omega) _
    fr := ((h.fr.alloc o).grown hg (fun k hk => Or.inr (hlt k hk).1)).setNew (p := ⟨w0.heap.size + 1, i, none⟩) (by show w0.heap.size ≤ w0.heap.size + 1; omega) _
    nm := (h.nm.old (hkeep M h.nm.lt (hlo M h.Mw))).old (Below.heap_setCell _ _ _ _ (by show M ≠ w0.heap.size + 1; omega))
    res := (Below.heap_setCell _ _ _ _ (by show w0.heap.size ≠ w0.heap.size + 1; omega)).trans hres
    mod := by rw [heap_setCell_same w' (w0.heap.size + 1) i _ _ _ hmod, hcs]
    Rw := h.Rw
    Nw := h.Nw
    Mw := h.Mw
    NM := h.NM
    vown := own_set ho1 hmod (by decide) i v'
    cown := ho2.set hmod i v' }
theorem ModSt.pushVar (h : ModSt N R M en w0 w q names vs (.slice none 0 0) vars []) (x : MVar) {o : Obj} (hg : (w.alloc o).grownBy w' vs.ownBlock)
    (ho : w'.ownsRow w0.heap.size 71 3 v' (vars.length + 1) (vars.flatMap varC ++ varC x)) :
    w'.heap[w0.heap.size + 1]? = some (.cells #[vs, .slice none 0 0, .int .i64 0, .int .i64 0] 25) ∧ ModSt N R M en w0 (w'.setCell ⟨w0.heap.size + 1, 0, none⟩ v') q names v' (.slice none 0 0) (vars ++ [x]) [] :=
  h.grown h.vown (by decide) hg 0 v' (.slice none 0 0) (vars ++ [x]) [] rfl (by rw [flat_snoc, List.length_append]; exact ho) (LCr.none _ _)
theorem ModSt.pushCon (h : ModSt N R M en w0 w q names vs cs vars cons) {vv vc vr vl : Value} {c : MCon} (hc : ConR w0.heap.size w vv vc vr vl c) {cells : List Value} (hw : w.ownsRow w0.heap.size 73 6 cs cons.length cells)
    (hcells : ∀ (i : Nat) (c : MCon), cons[i]? = some c → ∃ vv vc vr vl, (∀ j, j < 6 → cells[i * 6 + j]? = (conC vv vc vr vl c)[j]?) ∧ ConR w0.heap.size w vv vc vr vl c) {o : Obj} (hg : (w.alloc o).grownBy w' cs.ownBlock)
    (ho : w'.ownsRow w0.heap.size 73 6 v' (cons.length + 1) (cells ++ conC vv vc vr vl c)) :
    w'.heap[w0.heap.size + 1]? = some (.cells #[vs, cs, .int .i64 0, .int .i64 0] 25) ∧ ModSt N R M en w0 (w'.setCell ⟨w0.heap.size + 1, 1, none⟩ v') q names vs v' vars (cons ++ [c]) :=
  h.grown hw (by decide) hg 1 vs v' vars (cons ++ [c]) rfl ((h.vown.alloc _).kept hg (apart9 h.vown hw (by decide))) (LCr.push hw hcells hc ho hg)
end
end Go.Proofs.YtdjbejlbmaiocagGreatDoor
/-
  WALK: package text: the reader: model.
-/
namespace Go.Proofs.YtdjbejlbmaiocagGreatDoor
open Go.RowKit

theorem bytes_empty {s : ByteArray} (h : s.data.toList = []) : s = ByteArray.empty := by
  cases s with
  | mk d =>
    have : d = #[] := by simpa using h
    rw [this]; rfl
theorem newvar_ne {en : Int} {l r : List Tok} {x : MVar} (h : newVarP en l = .ok x r) : x.name.data.toList ≠ [] := by
  unfold newVarP at h
  obtain ⟨_, q1, _, h2⟩ := PR.bind_ok h
  obtain ⟨n, q2, h3, h4⟩ := PR.bind_ok h2
  obtain ⟨_, _, _, h5⟩ := PR.bind_ok h4
  obtain ⟨_, _, _, h6⟩ := PR.bind_ok h5
  obtain ⟨_, _, _, h7⟩ := PR.bind_ok h6
  obtain ⟨_, _, _, h8⟩ := PR.bind_ok h7
  obtain ⟨_, _, _, h9⟩ := PR.bind_ok h8
  cases h9
  unfold newNameP at h3
  obtain ⟨t, q, h10, h11⟩ := PR.bind_ok h3
  cases h11
  unfold passP at h10
  split at h10
  · rename_i hb
    cases h10
    intro he
    have he2 : (headT en q1).text.data.toList = [] := he
    rw [bytes_empty he2, name_empty] at hb
    cases hb
  · cases h10
theorem eats_newName (en : Int) : Eats (newNameP en) := eats_pass en (fun l => nameB (headT en l).text) (fun t _ => t.text)
theorem newvar_len {en : Int} {l r : List Tok} {x : MVar} (h : newVarP en l = .ok x r) : r.length + 1 ≤ l.length := by
  unfold newVarP at h
  obtain ⟨_, q1, e1, h2⟩ := PR.bind_ok h
  obtain ⟨n, q2, e2, h4⟩ := PR.bind_ok h2
  obtain ⟨_, q3, e3, h5⟩ := PR.bind_ok h4
  obtain ⟨_, q4, e4, h6⟩ := PR.bind_ok h5
  obtain ⟨_, q5, e5, h7⟩ := PR.bind_ok h6
  obtain ⟨_, q6, e6, h8⟩ := PR.bind_ok h7
  obtain ⟨_, q7, e7, h9⟩ := PR.bind_ok h8
  cases h9
  have f1 := skip_len solid_var e1
  have f2 := eats_newName en _ _ _ e2
  have f3 := skip_len solid_col e3
  have f4 := eats_number en _ _ _ e4
  have f5 := skip_len solid_dots e5
  have f6 := eats_number en _ _ _ e6
  have f7 := skip_len solid_semi e7
  omega
theorem eats_bind {α β : Type} {p : List Tok → PR α} {f : α → List Tok → PR β} (hp : Eats p) (hf : ∀ a, Eats (f a)) : Eats fun l => (p l).bind f := by
  intro l x r h
  obtain ⟨a, q, h1, h2⟩ := PR.bind_ok h
  have e1 := hp l a q h1
  have e2 := hf a q x r h2
  omega
theorem eats_ok {α : Type} (a : α) : Eats fun l => .ok a l := by
  intro l x r h
  cases h
  exact Nat.le_refl _
theorem eats_body (en : Int) (names : List ByteArray) (k : Int) : Eats (bodyP en names k) := by
  have en1 := eats_read en _ (eats_number en)
  have en2 := eats_read en _ (eats_name en names)
  have en3 := eats_number en
  have en4 := eats_name en names
  unfold bodyP
  intro l
  split
  · exact eats_bind en1 (fun cs => eats_bind en2 fun vs => eats_bind en3 fun n => eats_ok _) l
  split
  · exact eats_bind en2 (fun vs => eats_ok _) l
  split
  · exact eats_bind en1 (fun cs => eats_bind en4 fun a => eats_bind en4 fun b => eats_ok _) l
  split
  · exact eats_bind en2 (fun cs => eats_bind (eats_read en _ en1) fun a => eats_ok _) l
  split
  · exact eats_bind en4 (fun cs => eats_bind en4 fun a => eats_bind en4 fun b => eats_ok _) l
  split
  · exact eats_bind en4 (fun cs => eats_bind en2 fun a => eats_ok _) l
  split
  · exact eats_bind (eats_read en _ (eats_lit en names)) (fun cs => eats_ok _) l
  split
  · exact eats_bind en4 (fun cs => eats_bind (eats_lit en names) fun a => eats_ok _) l
  · exact eats_ok _ l
theorem con_len {en : Int} {names : List ByteArray} {l r : List Tok} {x : MCon} (h : conP en names l = .ok x r) : r.length + 1 ≤ l.length := by
  unfold conP at h
  obtain ⟨_, q1, e1, h2⟩ := PR.bind_ok h
  obtain ⟨n, q2, e2, h4⟩ := PR.bind_ok h2
  obtain ⟨_, q3, e3, h5⟩ := PR.bind_ok h4
  obtain ⟨_, q4, e4, h6⟩ := PR.bind_ok h5
  cases h6
  have f1 := skip_len solid_con e1
  have f2 := eats_oneOf en _ _ _ _ e2
  have f3 := eats_body en names _ _ _ _ e3
  have f4 := skip_len solid_semi e4
  omega
theorem Tryz.infoVar5 : (Tryz.prog.info? 71).map (fun i => (i.zero, i.size, i.bytes)) = some (some (.agg #[.string ⟨#[]⟩, .int .i64 0, .int .i64 0]), 3, 32) := by kernel_rfl
theorem Tryz.underVars5 : Tryz.prog.underlying 22 = some (.slice 71) := by kernel_rfl
theorem Tryz.infoCon5 : (Tryz.prog.info? 73).map (fun i => (i.zero, i.size, i.bytes)) = some (some (.agg #[.int .i64 0, .slice none 0 0, .slice none 0 0, .int .i64 0, .slice none 0 0, .slice none 0 0]), 6, 112) := by kernel_rfl
theorem Tryz.underCons5 : Tryz.prog.underlying 23 = some (.slice 73) := by kernel_rfl
theorem one_laidV (w : World) (z : MVar) : ∀ (j : Nat) (u : Value), (varC z)[j]? = some u → (w.alloc (.cells #[.string z.name, .int .i64 z.lo, .int .i64 z.hi] 71)).cell? ((⟨w.heap.size, 0, none⟩ : Addr).add j) = some u := by
  intro j u hj
  match j, hj with
  | 0, hj => simp [varC] at hj; subst hj; simp [Addr.add]
  | 1, hj => simp [varC] at hj; subst hj; simp [Addr.add]
  | 2, hj => simp [varC] at hj; subst hj; simp [Addr.add]
theorem one_laidC (w : World) (vv vc vr vl : Value) (z : MCon) : ∀ (j : Nat) (u : Value), (conC vv vc vr vl z)[j]? = some u → (w.alloc (.cells #[.int .i64 z.kind, vv, vc, .int .i64 z.n, vr, vl] 73)).cell? ((⟨w.heap.size, 0, none⟩ : Addr).add j) = some u := by
  intro j u hj
  match j, hj with
  | 0, hj => simp [conC] at hj; subst hj; simp [Addr.add]
  | 1, hj => simp [conC] at hj; subst hj; simp [Addr.add]
  | 2, hj => simp [conC] at hj; subst hj; simp [Addr.add]
  | 3, hj => simp [conC] at hj; subst hj; simp [Addr.add]
  | 4, hj => simp [conC] at hj; subst hj; simp [Addr.add]
  | 5, hj => simp [conC] at hj; subst hj; simp [Addr.add]
end Go.Proofs.YtdjbejlbmaiocagGreatDoor
/-
  WALK: package text: the reader: model.
-/
namespace Go.Proofs.YtdjbejlbmaiocagGreatDoor
open Go.RowKit

def restP (en : Int) (vs : List MVar) (l : List Tok) : PR Mod :=
  (consP en (vs.map MVar.name) (l.length + 1) [] l).bind fun cs l => (goalP en (vs.map MVar.name) l).bind fun g l => if 0 < l.length then .bad (headT en l).place 1 else .ok ⟨vs, cs, g.1, g.2⟩ l
def endP (en : Int) (vs : List MVar) (cs : List MCon) (l : List Tok) : PR Mod :=
  (goalP en (vs.map MVar.name) l).bind fun g l => if 0 < l.length then .bad (headT en l).place 1 else .ok ⟨vs, cs, g.1, g.2⟩ l
def GM (B : Nat) (m : Mod) (v : Value) (w' : World) : Prop := ∃ vs cs, v = modV vs cs m ∧ w'.ownsRow B 71 3 vs m.vars.length (m.vars.flatMap varC) ∧ LCr B w' cs m.cons ∧ (∀ x ∈ m.vars, x.name.size ≤ maxLen) ∧ m.vars.length ≤ 4000 ∧ m.cons.length ≤ 4000
theorem one_cells3 (x : MVar) : ∀ u ∈ varC x, u.oneCell' = true := by
  intro u hu
  simp only [varC, List.mem_cons, List.not_mem_nil, or_false] at hu
  rcases hu with rfl | rfl | rfl <;> rfl
theorem one_cells6 {B : Nat} {w : World} {vv vc vr vl : Value} {c : MCon} (h : ConR B w vv vc vr vl c) : ∀ u ∈ conC vv vc vr vl c, u.oneCell' = true := by
  obtain ⟨a1, c1, rfl⟩ := own_form h.1
  obtain ⟨a2, c2, rfl⟩ := own_form h.2.1
  obtain ⟨a3, c3, rfl⟩ := h.2.2.1.form
  obtain ⟨a4, c4, rfl⟩ := own_form h.2.2.2
  intro u hu
  simp only [conC, List.mem_cons, List.not_mem_nil, or_false] at hu
  rcases hu with rfl | rfl | rfl | rfl | rfl | rfl <;> rfl

theorem ModSt.endd {N R M : Nat} {en : Int} {names : List ByteArray} {w0 w : World} {q : List Tok} {vs cs : Value} {vars : List MVar} {cons : List MCon} (h : ModSt N R M en w0 w q names vs cs vars cons) (u2 u3 e0 e1 e2 e3 : Value) (W : World)
    (hW : W = (((((w.setCell ⟨w0.heap.size + 1, 2, none⟩ u2).setCell ⟨w0.heap.size + 1, 3, none⟩ u3).setCell ⟨w0.heap.size, 0, none⟩ e0).setCell ⟨w0.heap.size, 1, none⟩ e1).setCell ⟨w0.heap.size, 2, none⟩ e2).setCell ⟨w0.heap.size, 3, none⟩ e3) :
    W.ownsRow w0.heap.size 71 3 vs vars.length (vars.flatMap varC) ∧ LCr w0.heap.size W cs cons ∧ Rd N R M en W q ∧ Fr (XRM R M) w0 W := by
  subst hW
  have hRw := h.Rw
  have hNw := h.Nw
  have hne : w0.heap.size ≠ R := by omega
  have hne1 : w0.heap.size + 1 ≠ R := by omega
  have hN1 : N ≤ w0.heap.size + 1 := by omega
  have m0 : ∃ cs, w.heap[w0.heap.size + 1]? = some (.cells cs 25) := ⟨_, h.mod⟩
  have m1 := blk_put m0 2 u2
  have k0 : ∃ cs, ((w.setCell ⟨w0.heap.size + 1, 2, none⟩ u2).setCell ⟨w0.heap.size + 1, 3, none⟩ u3).heap[w0.heap.size]? = some (.cells cs 25) :=
    ⟨_, (Below.heap_setCell _ _ _ _ (show w0.heap.size ≠ w0.heap.size + 1 by omega)).trans ((Below.heap_setCell _ _ _ _ (show w0.heap.size ≠ w0.heap.size + 1 by omega)).trans h.res)⟩
  have k1 := blk_put k0 0 e0
  have k2 := blk_put k1 1 e1
  have k3 := blk_put k2 2 e2
  refine ⟨?_, ?_, ?_, ?_⟩
  · exact own_set (own_set (own_set (own_set (own_set (own_set h.vown m0.choose_spec (by decide) 2 u2) m1.choose_spec (by decide) 3 u3) k0.choose_spec (by decide) 0 e0) k1.choose_spec (by decide) 1 e1) k2.choose_spec (by decide) 2 e2) k3.choose_spec (by decide) 3 e3
  · exact (((((h.cown.set m0.choose_spec 2 u2).set m1.choose_spec 3 u3).set k0.choose_spec 0 e0).set k1.choose_spec 1 e1).set k2.choose_spec 2 e2).set k3.choose_spec 3 e3
  · exact (((((h.rd.set (p := ⟨w0.heap.size + 1, 2, none⟩) hne1 hN1 _).set (p := ⟨w0.heap.size + 1, 3, none⟩) hne1 hN1 _).set (p := ⟨w0.heap.size, 0, none⟩) hne h.Nw _).set (p := ⟨w0.heap.size, 1, none⟩) hne h.Nw _).set (p := ⟨w0.heap.size, 2, none⟩) hne h.Nw _).set (p := ⟨w0.heap.size, 3, none⟩) hne h.Nw _
  · exact (((((h.fr.setNew (p := ⟨w0.heap.size + 1, 2, none⟩) (Nat.le_succ _) _).setNew (p := ⟨w0.heap.size + 1, 3, none⟩) (Nat.le_succ _) _).setNew (p := ⟨w0.heap.size, 0, none⟩) (Nat.le_refl _) _).setNew (p := ⟨w0.heap.size, 1, none⟩) (Nat.le_refl _) _).setNew (p := ⟨w0.heap.size, 2, none⟩) (Nat.le_refl _) _).setNew (p := ⟨w0.heap.size, 3, none⟩) (Nat.le_refl _) _
set_option maxHeartbeats 6400000 in
set_option maxRecDepth 100000 in
theorem rmodel_any (N R M : Nat) (en : Int) (w : World) (l : List Tok) (h : Rd N R M en w l) (hn : NmS w M []) (hNM : N ≤ M) :
    Calls Tryz.prog 124 #[.pointer (some ⟨R, 0, none⟩)] w (PostR (modelP en l) (GM w.heap.size) N R M en (XRM R M) w) := by
  have HB : Hid (Rd N R M en w l) := h
  have HN : Hid (NmS w M []) := hn
  have hMR : M ≠ R := h.1.2.2
  have hRw : R < w.heap.size := by obtain ⟨_, _, hR, _⟩ := h; exact (Array.getElem?_eq_some_iff.1 hR).1
  have hMw : M < w.heap.size := hn.lt
  have hNw : N ≤ w.heap.size := h.1.2.1
  have hll := h.len
  obtain ⟨iV, hiV, hzV0, hzV1, hzV2⟩ := info_parts Tryz.infoVar5
  obtain ⟨iC, hiC, hzC0, hzC1, hzC2⟩ := info_parts Tryz.infoCon5
  obtain ⟨P, hP⟩ : ∃ P, modelP en l = P := ⟨_, rfl⟩
  have HP0 : Hid (P = (varsP en (l.length + 1) [] l).bind (restP en)) := by show _ = _; rw [← hP]; rfl
  rw [hP]
  clear h hP hn
  go_enter Tryz.func124, Tryz.ntmps124
  go_wp2_with fail
  obtain ⟨W0, hW0⟩ : ∃ W0, W0 = (w.alloc (.cells #[.slice none 0 0, .slice none 0 0, .int .i64 0, .int .i64 0] 25)).alloc (.cells #[.slice none 0 0, .slice none 0 0, .int .i64 0, .int .i64 0] 25) := ⟨_, rfl⟩
  have hbW : Below w.heap.size w W0 := by rw [hW0]; exact (below_alloc _ _).trans ((below_alloc _ _).mono (by simp))
  have HS0 : Hid (ModSt N R M en w W0 l [] (.slice none 0 0) (.slice none 0 0) [] []) := by
    refine ⟨HB.out.below hbW, Fr.below hbW, HN.out.old (hbW.block M hMw), ?_, ?_, hRw, hNw, hMw, hNM, World.ownsRow_nil _ _ _ _, LCr.none _ _⟩
    · rw [hW0]; exact ((below_alloc _ _).block _ (by simp)).trans (by show (w.heap.push _)[w.heap.size]? = _; simp)
    · have hsz : w.heap.size + 1 = (w.alloc (.cells #[.slice none 0 0, .slice none 0 0, .int .i64 0, .int .i64 0] 25)).heap.size := by simp
      rw [hW0, hsz]; exact heap_alloc_new _ _
  rw [← hW0]
  clear hbW hW0
  go_loopw [] (fun wr => ∃ (f : Nat) (vars : List MVar) (q : List Tok) (vs : Value), Hid (P = (varsP en f vars q).bind (restP en)) ∧ Hid (ModSt N R M en w wr q (vars.map MVar.name) vs (.slice none 0 0) vars []) ∧ Hid (∀ n ∈ vars.map MVar.name, n.data.toList ≠ []) ∧ Hid (∀ x ∈ vars, x.name.size ≤ maxLen) ∧ q.length + 1 ≤ f ∧ vars.length + q.length ≤ 4000) (fun wr => leftT R wr)
  case atStart => exact ⟨_, [], l, _, HP0, HS0, fun n hn => by (simp at hn), fun x hx => by (simp at hx), by omega, by simp; omega⟩
  case round =>
    obtain ⟨f, vars, q, vs, HPV, HSV, HNE, HSZ, hf, hlen⟩ := hrel
    obtain ⟨g, rfl⟩ : ∃ g, f = g + 1 := ⟨f - 1, by omega⟩
    have hf2 := tokF2 (headT en q)
    obtain ⟨av, cv, hv⟩ := own_form HSV.out.vown
    subst hv
    have HVW : Hid ((⟨#[118, 97, 114]⟩ : ByteArray).toList = [118, 97, 114]) := by show _ = _; simp [go_sem]
    cases hc : ((headT en q).text.toList == [118, 97, 114])
    · have HPE : Hid (P = (consP en (vars.map MVar.name) (q.length + 1) [] q).bind (endP en vars)) := by show _ = _; rw [HPV.out, varsP, hc]; rfl
      obtain ⟨names, hnames⟩ : ∃ names, vars.map MVar.name = names := ⟨_, rfl⟩
      have HNM : Hid (vars.map MVar.name = names) := hnames
      rw [hnames] at HPE HSV HNE
      clear HPV hnames
      go_wp2_with fail
      refine (ahead_any N R M en _ q HSV.out.rd).mono ?_
      rintro e w6 ⟨rfl, hb6⟩
      have HS6 : Hid (ModSt N R M en w w6 q names (.slice av vars.length cv) (.slice none 0 0) vars []) := HSV.out.below hb6
      have hvl : vars.length ≤ 4000 := by omega
      unfold tokA
      clear hb6 HSV
      go_wp2_with fail
      clear hc hf2
      go_loopw [] (fun wr => ∃ (f : Nat) (cons : List MCon) (q : List Tok) (cs : Value), Hid (P = (consP en names f cons q).bind (endP en vars)) ∧ Hid (ModSt N R M en w wr q names (.slice av vars.length cv) cs vars cons) ∧ q.length + 1 ≤ f ∧ cons.length + q.length ≤ 4000) (fun wr => leftT R wr)
      case atStart => exact ⟨_, [], q, _, HPE, HS6, by omega, by simp; omega⟩
      case round =>
        clear HPE HS6 hf hlen
        obtain ⟨f, cons, q, cs, HPV, HSV, hf, hlen⟩ := hrel
        obtain ⟨g, rfl⟩ : ∃ g, f = g + 1 := ⟨f - 1, by omega⟩
        have hf2 := tokF2 (headT en q)
        obtain ⟨ac, cc, hv⟩ := HSV.out.cown.form
        subst hv
        have HVX : Hid ((⟨#[99, 111, 110]⟩ : ByteArray).toList = [99, 111, 110]) := by show _ = _; simp [go_sem]
        cases hc : ((headT en q).text.toList == [99, 111, 110])
        · have HPE : Hid (P = endP en vars cons q) := by show _ = _; rw [HPV.out, consP, hc]; rfl
          clear HPV
          go_wp2_with fail
          refine (ahead_any N R M en _ q HSV.out.rd).mono ?_
          rintro e w7 ⟨rfl, hb7⟩
          have HS7 : Hid (ModSt N R M en w w7 q names (.slice av vars.length cv) (.slice ac cons.length cc) vars cons) := HSV.out.below hb7
          unfold tokA
          clear hb7 HSV
          go_wp2_with fail
          clear hc hf2
          refine (rgoal_any N R M en names w7 q HS7.out.rd HS7.out.nm HNE.out).mono ?_
          intro e w8 hp
          cases hs : goalP en names q with
          | bad x er =>
            rw [hs] at hp
            obtain ⟨rfl, hfr⟩ := hp
            have hfr2 := HS7.out.fr.trans hfr.toRM
            have HPB : Hid (P = .bad x er) := by show _ = _; rw [HPE.out]; unfold endP; rw [HNM.out, hs]; rfl
            clear hs hfr
            go_wp2
            exact ⟨rfl, by rw [HPB.out]; exact ⟨rfl, hfr2⟩⟩
          | ok gg q5 =>
            rw [hs] at hp
            obtain ⟨v, rfl, rfl, hrd, hfr⟩ := hp
            have HS8 : Hid (ModSt N R M en w w8 q5 names (.slice av vars.length cv) (.slice ac cons.length cc) vars cons) := HS7.out.callR hfr hrd
            have HPN : Hid (P = if 0 < q5.length then .bad (headT en q5).place 1 else .ok ⟨vars, cons, gg.1, gg.2⟩ q5) := by show _ = _; rw [HPE.out]; unfold endP; rw [HNM.out, hs]; rfl
            have r2 := blk9 HS8.out.mod 2 _ rfl
            have r3 := blk9 HS8.out.mod 3 _ rfl
            have r0 := blk9 HS8.out.mod 0 _ rfl
            have r1 := blk9 HS8.out.mod 1 _ rfl
            have z2 := frz9 HS8.out.mod 2
            have z3 := frz9 HS8.out.mod 3
            have b0 := blk9 HS8.out.res 0 _ rfl
            have b1 := blk9 HS8.out.res 1 _ rfl
            have b2 := blk9 HS8.out.res 2 _ rfl
            have b3 := blk9 HS8.out.res 3 _ rfl
            have y0 := frz9 HS8.out.res 0
            have y1 := frz9 HS8.out.res 1
            have y2 := frz9 HS8.out.res 2
            have y3 := frz9 HS8.out.res 3
            obtain ⟨_, vr, hR, ar, cr, rfl, ⟨hcr1, hcr2⟩, _, _⟩ := HS8.out.rd
            have cR : w8.cell? ⟨R, 0, none⟩ = some (.slice ar q5.length cr) := by rw [Lib.cell_of_heap hR]; rfl
            have hRne : R ≠ w.heap.size + 1 := by omega
            obtain ⟨g1, hg1⟩ : ∃ g1, gg.1 = g1 := ⟨_, rfl⟩
            obtain ⟨g2, hg2⟩ : ∃ g2, gg.2 = g2 := ⟨_, rfl⟩
            rw [hg1, hg2] at HPN ⊢
            have HSE : Hid (Rd N R M en ((w8.setCell ⟨w.heap.size + 1, 2, none⟩ (.int .i64 g1)).setCell ⟨w.heap.size + 1, 3, none⟩ (.int .i64 g2)) q5 ∧ Fr (XRM R M) w ((w8.setCell ⟨w.heap.size + 1, 2, none⟩ (.int .i64 g1)).setCell ⟨w.heap.size + 1, 3, none⟩ (.int .i64 g2))) :=
              ⟨(HS8.out.rd.set (p := ⟨w.heap.size + 1, 2, none⟩) (Ne.symm hRne) (show N ≤ w.heap.size + 1 by omega) _).set (p := ⟨w.heap.size + 1, 3, none⟩) (Ne.symm hRne) (show N ≤ w.heap.size + 1 by omega) _, (HS8.out.fr.setNew (p := ⟨w.heap.size + 1, 2, none⟩) (show w.heap.size ≤ w.heap.size + 1 by omega) _).setNew (p := ⟨w.heap.size + 1, 3, none⟩) (show w.heap.size ≤ w.heap.size + 1 by omega) _⟩
            clear hs hfr hrd HPE HS7 hR hg1 hg2 hcr1 hcr2
            cases q5 with
            | nil =>
              have HPX : Hid (P = .ok ⟨vars, cons, g1, g2⟩ []) := by show _ = _; rw [HPN.out]; rfl
              go_wp2
              refine bodyPost_ret (by simp [results, Tryz.results124, go_sem, *]; try rfl) rfl ?_
              rw [HPX.out]
              obtain ⟨e1, e2, e3, e4⟩ := HS8.out.endd _ _ _ _ _ _ _ rfl
              exact ⟨_, rfl, ⟨_, _, rfl, e1, e2, HSZ.out, hvl, by show cons.length ≤ 4000; omega⟩, e3, e4⟩
            | cons t5 r5 =>
              have HPX : Hid (P = .bad t5.place 1) := by show _ = _; rw [HPN.out]; rfl
              have hl5 : ((t5 :: r5).length : Int) = (r5.length : Int) + 1 := by simp
              go_wp2_with fail
              refine (giveup_any N R M en 1 _ (t5 :: r5) HSE.out.1).mono ?_
              rintro e w9 ⟨rfl, hb9⟩
              have hfr2 := HSE.out.2.trans (Fr.below hb9)
              go_wp2
              exact ⟨rfl, by rw [HPX.out]; exact ⟨rfl, hfr2⟩⟩
        · have HPE : Hid (P = ((conP en names q).bind fun c l => consP en names g (cons ++ [c]) l).bind (endP en vars)) := by show _ = _; rw [HPV.out, consP, hc, if_pos rfl]
          clear HPV
          go_wp2_with fail
          refine (ahead_any N R M en _ q HSV.out.rd).mono ?_
          rintro e w7 ⟨rfl, hb7⟩
          have HS7 : Hid (ModSt N R M en w w7 q names (.slice av vars.length cv) (.slice ac cons.length cc) vars cons) := HSV.out.below hb7
          have HM7 : Hid (leftT R wr = q.length) := leftT_rd HSV.out.rd
          unfold tokA
          clear hb7 HSV
          go_wp2_with fail
          have c1 : w7.cell? ⟨w.heap.size + 1, 1, none⟩ = some (.slice ac cons.length cc) := blk9 HS7.out.mod 1 _ rfl
          have HSD : Hid (ModSt N R M en w w7.drew q names (.slice av vars.length cv) (.slice ac cons.length cc) vars cons) := HS7.out.below (Below.refl _ _).drew
          have hnv := rcon_any N R M en names w7.drew q HSD.out.rd HSD.out.nm HNE.out
          cases hs : conP en names q with
          | bad x er =>
            have HPB : Hid (P = .bad x er) := by show _ = _; rw [HPE.out, hs]; rfl
            rw [hs] at hnv
            clear hs hc hf2
            refine wp_region_held_drew (S := fun w' => w' = w7.drew) (by kernel_rfl) rfl (fun hHeld => ?_)
            refine wpAnyH_take (i := 0) (v := ?v0b) rfl (by kernel_rfl) (by kernel_rfl) (by kernel_rfl) (fun _ _ _ h => h) (Or.inl ⟨by rfl, ?y0b⟩) rfl ?r0b
            case y0b => intro wq hSw; subst hSw; go_simp; with_reducible rfl
            refine wpAnyH_take (i := 1) (v := ?v1b) rfl (by kernel_rfl) (by kernel_rfl) (by kernel_rfl) (fun _ _ _ h => h) (Or.inl ⟨by rfl, ?y1b⟩) rfl ?r1b
            case y1b => intro wq hSw; subst hSw; go_simp; with_reducible rfl
            refine wpAnyH_take (i := 2) (v := ?v2b) rfl (by kernel_rfl) (by kernel_rfl) (by kernel_rfl) (fun _ _ _ h => h) (Or.inl ⟨by rfl, ?y2b⟩) rfl ?r2b
            case y2b => intro wq hSw; subst hSw; go_simp; with_reducible rfl
            refine wpAnyH_ready (rs := [3]) (by kernel_rfl) (by simp) ?_
            refine AllReadyH.cons rfl (fun K hK => ?_) AllReadyH.nil
            clear hK
            go_simp
            refine hnv.mono ?_
            rintro e w8 ⟨rfl, hfr⟩
            have hfr2 := HSD.out.fr.trans hfr.toRM
            clear hnv hfr
            go_wp2
            exact ⟨rfl, by rw [HPB.out]; exact ⟨rfl, hfr2⟩⟩
          | ok x q2 =>
            have hq2 : q2.length + 1 ≤ q.length := con_len hs
            have HPN : Hid (P = (consP en names g (cons ++ [x]) q2).bind (endP en vars)) := by show _ = _; rw [HPE.out, hs]; rfl
            rw [hs] at hnv
            clear hs hc hf2 HPE
            go_region_law
              (first
                | (rw [if_pos (by rfl)]; refine wp_append_own _ _ _ 23 rfl w.heap.size 73 iC _ 6 112 Tryz.underCons5 hiC hzC0 hzC1 hzC2 rfl (by decide) _ _ _ rfl (hw8.alloc _) ⟨w8.heap.size, 0, none⟩ 1 1 (conC _ _ _ _ x) rfl rfl (one_laidC w8 _ _ _ _ x) (one_cells6 hcr) ?_ ?_ ?_ ?_; (unfold maxLen; omega); omega; (have := HT.base; simp; omega); intro v9 w9 hown9 hg9 _; have HU := HT.pushCon hcr hw8 hcells8 hg9 hown9; have d0 := blk9 HU.1 1 _ rfl; have z0 := frz9 HU.1 1; obtain ⟨a9, b9, hv9⟩ := own_form hown9; subst hv9)
                | (rw [if_pos (by rfl)]; go_simp; go_at_call 177; refine hnv.mono ?_; rintro e w8 ⟨v8, rfl, ⟨vv, vc, vr, vl, rfl, hcr0⟩, hrd8, hfr8⟩; have HT := HSD.out.callR hfr8 hrd8; have hcr := hcr0.mono HSD.out.base; obtain ⟨x1, y1, hx1⟩ := own_form hcr.1; obtain ⟨x2, y2, hx2⟩ := own_form hcr.2.1; obtain ⟨x3, y3, hx3⟩ := hcr.2.2.1.form; obtain ⟨x4, y4, hx4⟩ := own_form hcr.2.2.2; subst hx1 hx2 hx3 hx4; obtain ⟨cells8, hw8, hcells8⟩ := HT.cown; have c8 := blk9 HT.mod 1 _ rfl; have hl8 : w.heap.size + 1 < w8.heap.size := (Array.getElem?_eq_some_iff.1 HT.mod).1; unfold conV; dsimp only))
            all_goals
              have HS9 : Hid (ModSt N R M en w (w9.setCell ⟨w.heap.size + 1, 1, none⟩ (.slice a9 (cons.length + 1) b9)) q2 names (.slice av vars.length cv) (.slice a9 (cons.length + 1) b9) vars (cons ++ [x])) := HU.2
              have HM9 : Hid (leftT R (w9.setCell ⟨w.heap.size + 1, 1, none⟩ (.slice a9 (cons.length + 1) b9)) < leftT R wr) := by show _ < _; rw [leftT_rd HS9.out.rd, HM7.out]; omega
              clear HT HU HSD hnv hg9 hown9 d0 z0 c1 c8 hrd8 hfr8 HS7 hcr hcr0 hw8 hcells8
              go_wp2
              go_roundw
              case rel => exact ⟨g, cons ++ [x], q2, _, HPN, HS9, by omega, by simp; omega⟩
              case measure => exact HM9.out
    · have HPE : Hid (P = ((newVarP en q).bind fun v l => varsP en g (vars ++ [v]) l).bind (restP en)) := by show _ = _; rw [HPV.out, varsP, hc, if_pos rfl]
      clear HPV
      go_wp2_with fail
      refine (ahead_any N R M en _ q HSV.out.rd).mono ?_
      rintro e w6 ⟨rfl, hb6⟩
      have HS6 : Hid (ModSt N R M en w w6 q (vars.map MVar.name) (.slice av vars.length cv) (.slice none 0 0) vars []) := HSV.out.below hb6
      have HM6 : Hid (leftT R wr = q.length) := leftT_rd HSV.out.rd
      unfold tokA
      clear hb6 HSV
      go_wp2_with fail
      have c0 : w6.cell? ⟨w.heap.size + 1, 0, none⟩ = some (.slice av vars.length cv) := blk9 HS6.out.mod 0 _ rfl
      have HSD : Hid (ModSt N R M en w w6.drew q (vars.map MVar.name) (.slice av vars.length cv) (.slice none 0 0) vars []) := HS6.out.below (Below.refl _ _).drew
      have hnv := newvar_any N R M en (vars.map MVar.name) w6.drew q HSD.out.rd HSD.out.nm (by simp; omega) hNM
      rw [List.length_map] at hnv
      cases hs : newVarP en q with
      | bad x er =>
        have HPB : Hid (P = .bad x er) := by show _ = _; rw [HPE.out, hs]; rfl
        rw [hs] at hnv
        clear hs hc hf2
        refine wp_region_held_drew (S := fun w' => w' = w6.drew) (by kernel_rfl) rfl (fun hHeld => ?_)
        refine wpAnyH_take (i := 0) (v := ?v0) rfl (by kernel_rfl) (by kernel_rfl) (by kernel_rfl) (fun _ _ _ h => h) (Or.inl ⟨by rfl, ?y0⟩) rfl ?r0
        case y0 => intro wq hSw; subst hSw; go_simp; with_reducible rfl
        refine wpAnyH_take (i := 1) (v := ?v1) rfl (by kernel_rfl) (by kernel_rfl) (by kernel_rfl) (fun _ _ _ h => h) (Or.inl ⟨by rfl, ?y1⟩) rfl ?r1
        case y1 => intro wq hSw; subst hSw; go_simp; with_reducible rfl
        refine wpAnyH_take (i := 2) (v := ?v2) rfl (by kernel_rfl) (by kernel_rfl) (by kernel_rfl) (fun _ _ _ h => h) (Or.inl ⟨by rfl, ?y2⟩) rfl ?r2
        case y2 => intro wq hSw; subst hSw; go_simp; with_reducible rfl
        refine wpAnyH_take (i := 3) (v := ?v3) rfl (by kernel_rfl) (by kernel_rfl) (by kernel_rfl) (fun _ _ _ h => h) (Or.inl ⟨by rfl, ?y3⟩) rfl ?r3
        case y3 => intro wq hSw; subst hSw; go_simp; with_reducible rfl
        refine wpAnyH_take (i := 4) (v := ?v4) rfl (by kernel_rfl) (by kernel_rfl) (by kernel_rfl) (fun _ _ _ h => h) (Or.inl ⟨by rfl, ?y4⟩) rfl ?r4
        case y4 => intro wq hSw; subst hSw; go_simp; with_reducible rfl
        refine wpAnyH_take (i := 5) (v := ?v5) rfl (by kernel_rfl) (by kernel_rfl) (by kernel_rfl) (fun _ _ _ h => h) (Or.inl ⟨by rfl, ?y5⟩) rfl ?r5
        case y5 => intro wq hSw; subst hSw; go_simp; with_reducible rfl
        refine wpAnyH_ready (rs := [6]) (by kernel_rfl) (by simp) ?_
        refine AllReadyH.cons rfl (fun K hK => ?_) AllReadyH.nil
        clear hK
        go_simp
        refine hnv.mono ?_
        rintro e w7 ⟨rfl, hfr⟩
        have hfr2 := HSD.out.fr.trans hfr
        clear hnv hfr
        go_wp2
        exact ⟨rfl, by rw [HPB.out]; exact ⟨rfl, hfr2⟩⟩
      | ok x q2 =>
        have HNX : Hid (∀ n ∈ (vars ++ [x]).map MVar.name, n.data.toList ≠ []) := by
          intro n hn
          rw [List.map_append, List.mem_append] at hn
          rcases hn with hn | hn
          · exact HNE.out n hn
          · simp at hn; subst hn; exact newvar_ne hs
        have hq2 : q2.length + 1 ≤ q.length := newvar_len hs
        have HPN : Hid (P = (varsP en g (vars ++ [x]) q2).bind (restP en)) := by show _ = _; rw [HPE.out, hs]; rfl
        rw [hs] at hnv
        clear hs hc hf2 HPE
        go_region_law
          (first
            | (rw [if_pos (by rfl)]; refine wp_append_own _ _ _ 22 rfl w.heap.size 71 iV _ 3 32 Tryz.underVars5 hiV hzV0 hzV1 hzV2 rfl (by decide) _ _ _ rfl (HT.vown.alloc _) ⟨w7.heap.size, 0, none⟩ 1 1 (varC x) rfl rfl (one_laidV w7 x) (one_cells3 x) ?_ ?_ ?_ ?_; (unfold maxLen; omega); omega; (have := HT.base; simp; omega); intro v8 w8 hown8 hg8 _; have HU := HT.pushVar x hg8 hown8; have d0 := blk9 HU.1 0 _ rfl; have z0 := frz9 HU.1 0; obtain ⟨a8, b8, hv8⟩ := own_form hown8; subst hv8)
            | (rw [if_pos (by rfl)]; go_simp; go_at_call 176; refine hnv.mono ?_; rintro e w7 ⟨v7, rfl, ⟨rfl, hsz7, hnm7⟩, hrd7, hfr7⟩; have HT := HSD.out.call hfr7 hrd7 hnm7; have c7 := blk9 HT.mod 0 _ rfl; have hl7 : w.heap.size + 1 < w7.heap.size := (Array.getElem?_eq_some_iff.1 HT.mod).1; dsimp only))
        all_goals
          have HS9 : Hid (ModSt N R M en w (w8.setCell ⟨w.heap.size + 1, 0, none⟩ (.slice a8 (vars.length + 1) b8)) q2 ((vars ++ [x]).map MVar.name) (.slice a8 (vars.length + 1) b8) (.slice none 0 0) (vars ++ [x]) []) := by
            have := HU.2
            rw [List.map_append]
            exact this
          have HSX : Hid (∀ y ∈ vars ++ [x], y.name.size ≤ maxLen) := by
            intro y hy
            rw [List.mem_append] at hy
            rcases hy with hy | hy
            · exact HSZ.out y hy
            · simp at hy; subst hy; exact hsz7
          have HM9 : Hid (leftT R (w8.setCell ⟨w.heap.size + 1, 0, none⟩ (.slice a8 (vars.length + 1) b8)) < leftT R wr) := by show _ < _; rw [leftT_rd HS9.out.rd, HM6.out]; omega
          clear HT HU HSD hnv hg8 hown8 d0 z0 c0 c7 hrd7 hfr7 hnm7 hsz7 HS6
          go_wp2
          go_roundw
          case rel => exact ⟨g, vars ++ [x], q2, _, HPN, HS9, HNX, HSX, by omega, by simp; omega⟩
          case measure => exact HM9.out
end Go.Proofs.YtdjbejlbmaiocagGreatDoor
/-
  WALKS: package text: read's deferred closure; read.
-/
namespace Go.Proofs.YtdjbejlbmaiocagGreatDoor
open Go.RowKit

theorem slots_eq (b : Nat) (v : Value) : (#[.pointer (some ⟨b, 0, none⟩), .pointer (some ⟨b + 1, 0, none⟩), .pointer (some ⟨b + 2, 0, none⟩)] : Array Value) ++ ((Array.replicate 19 undef).setIfInBounds 3 v).setIfInBounds 0 v = #[.pointer (some ⟨b, 0, none⟩), .pointer (some ⟨b + 1, 0, none⟩), .pointer (some ⟨b + 2, 0, none⟩), v, undef, undef, v, undef, undef, undef, undef, undef, undef, undef, undef, undef, undef, undef, undef, undef, undef, undef] := by kernel_rfl
theorem tassert9 (x er : Int) (w : World) : Sem.run Tryz.prog (Instr.typeAssert (.iface 172 (.agg #[.int .i64 x, .int .i64 er])) 20 172 true) w = .ok (.tuple #[.agg #[.int .i64 x, .int .i64 er], .bool true]) w := by kernel_rfl
set_option maxHeartbeats 1600000 in
set_option maxRecDepth 100000 in
theorem catch_idle (b : Nat) (w : World) :
    CallsD Tryz.prog 123 #[.pointer (some ⟨b, 0, none⟩), .pointer (some ⟨b + 1, 0, none⟩), .pointer (some ⟨b + 2, 0, none⟩)] .returning w fun e u' w' => e = .returned (.tuple #[]) ∧ u' = .returning ∧ w' = w := by
  refine callsD_of_wpS Tryz.func123 rfl fun c₀ cs hu => ?_
  apply wpS_seq
  apply wpS_region
  simp [wpOpsS, go_sem, recoverD, hu, Tryz.ntmps123, Exit.thenS]
  rw [slots_eq]
  refine wpS_of_wp ?_
  go_wp2
  cases c₀
  simp_all [bodyPostS, results, Tryz.results123]
def Three (b : Nat) (x er : Int) (w0 w : World) : Prop :=
  w.heap[b]? = some (.cells #[.slice none 0 0, .slice none 0 0, .int .i64 0, .int .i64 0] 25) ∧ w.heap[b + 1]? = some (.cells #[.int .i64 x] 3) ∧ w.heap[b + 2]? = some (.cells #[.int .i64 er] 30) ∧ Fr (fun k => k = b ∨ k = b + 1 ∨ k = b + 2) w0 w
theorem Three.zero {b : Nat} {x er : Int} {w0 w : World} (h : Three b x er w0 w) (i : Nat) (u : Value) (hcs : (#[.slice none 0 0, .slice none 0 0, .int .i64 0, .int .i64 0] : Array Value).setIfInBounds i u = #[.slice none 0 0, .slice none 0 0, .int .i64 0, .int .i64 0]) : Three b x er w0 (w.setCell ⟨b, i, none⟩ u) := by
  obtain ⟨h0, h1, h2, h3⟩ := h
  refine ⟨?_, ?_, ?_, h3.setX (p := ⟨b, i, none⟩) (Or.inl rfl) u⟩
  · rw [heap_setCell_same w b i _ _ u h0, hcs]
  · exact (Below.heap_setCell _ _ _ _ (show b + 1 ≠ b by omega)).trans h1
  · exact (Below.heap_setCell _ _ _ _ (show b + 2 ≠ b by omega)).trans h2
theorem Three.one {b : Nat} {x er y : Int} {w0 w : World} (h : Three b x er w0 w) : Three b y er w0 (w.setCell ⟨b + 1, 0, none⟩ (.int .i64 y)) := by
  obtain ⟨h0, h1, h2, h3⟩ := h
  refine ⟨?_, ?_, ?_, h3.setX (p := ⟨b + 1, 0, none⟩) (Or.inr (Or.inl rfl)) _⟩
  · exact (Below.heap_setCell _ _ _ _ (show b ≠ b + 1 by omega)).trans h0
  · rw [heap_setCell_same w (b + 1) 0 _ _ _ h1]; rfl
  · exact (Below.heap_setCell _ _ _ _ (show b + 2 ≠ b + 1 by omega)).trans h2
theorem Three.two {b : Nat} {x er y : Int} {w0 w : World} (h : Three b x er w0 w) : Three b x y w0 (w.setCell ⟨b + 2, 0, none⟩ (.int .i64 y)) := by
  obtain ⟨h0, h1, h2, h3⟩ := h
  refine ⟨?_, ?_, ?_, h3.setX (p := ⟨b + 2, 0, none⟩) (Or.inr (Or.inr rfl)) _⟩
  · exact (Below.heap_setCell _ _ _ _ (show b ≠ b + 2 by omega)).trans h0
  · exact (Below.heap_setCell _ _ _ _ (show b + 1 ≠ b + 2 by omega)).trans h1
  · rw [heap_setCell_same w (b + 2) 0 _ _ _ h2]; rfl
theorem Three.below {b : Nat} {x er : Int} {w0 w w' : World} (h : Three b x er w0 w) (hb : Below w.heap.size w w') : Three b x er w0 w' :=
  ⟨(hb.block _ (Array.getElem?_eq_some_iff.1 h.1).1).trans h.1, (hb.block _ (Array.getElem?_eq_some_iff.1 h.2.1).1).trans h.2.1, (hb.block _ (Array.getElem?_eq_some_iff.1 h.2.2.1).1).trans h.2.2.1, h.2.2.2.trans (Fr.below hb)⟩
set_option maxHeartbeats 1600000 in
set_option maxRecDepth 100000 in
theorem catch_bad (b : Nat) (x er : Int) (w : World) (hT : Three b 0 0 w w) :
    CallsD Tryz.prog 123 #[.pointer (some ⟨b, 0, none⟩), .pointer (some ⟨b + 1, 0, none⟩), .pointer (some ⟨b + 2, 0, none⟩)] (.panicking [{ v := .iface 172 (.agg #[.int .i64 x, .int .i64 er]), recovered := false }]) w fun e u' w' => e = .returned (.tuple #[]) ∧ u' = .panicking [{ v := .iface 172 (.agg #[.int .i64 x, .int .i64 er]), recovered := true }] ∧
      Three b x er w w' := by
  have HT : Hid (Three b 0 0 w w) := hT
  obtain ⟨h0, h1, h2, _⟩ := hT
  have r0 := blk9 h0 0 _ rfl
  have r1 := blk9 h0 1 _ rfl
  have r2 := blk9 h0 2 _ rfl
  have r3 := blk9 h0 3 _ rfl
  have r4 := blk9 h1 0 _ rfl
  have r5 := blk9 h2 0 _ rfl
  have z0 := frz9 h0 0
  have z1 := frz9 h0 1
  have z2 := frz9 h0 2
  have z3 := frz9 h0 3
  have z4 := frz9 h1 0
  have z5 := frz9 h2 0
  have hl0 : b < w.heap.size := (Array.getElem?_eq_some_iff.1 h0).1
  have hl1 : b + 1 < w.heap.size := (Array.getElem?_eq_some_iff.1 h1).1
  have hl2 : b + 2 < w.heap.size := (Array.getElem?_eq_some_iff.1 h2).1
  clear h0 h1 h2
  refine callsD_of_wpS Tryz.func123 rfl fun c₀ cs hu => ?_
  apply wpS_seq
  apply wpS_region
  simp [wpOpsS, go_sem, recoverD, hu, Tryz.ntmps123, Exit.thenS]
  rw [slots_eq]
  refine wpS_of_wp ?_
  have hta := tassert9 x er
  go_wp2_with fail
  go_region
  all_goals
    refine ⟨rfl, _, rfl, _, results_none rfl _ _ _, rfl, rfl, ?_⟩
    refine Three.below ?_ (Below.refl _ _).drew
    refine Three.below ?_ (below_alloc _ _)
    exact (((((HT.out.zero 0 _ rfl).zero 1 _ rfl).zero 2 _ rfl).zero 3 _ rfl).one (y := x)).two (y := er)
end Go.Proofs.YtdjbejlbmaiocagGreatDoor
/-
  From rows of one's own to arguments; WALK: package text: read.
-/
namespace Go.Proofs.YtdjbejlbmaiocagGreatDoor
open Go.RowKit Go.Maps

theorem flat_get9 {α : Type} (f : α → List Value) (s : Nat) (hf : ∀ x, (f x).length = s) : ∀ (l : List α) (i k : Nat) (x : α), l[i]? = some x → k < s → (l.flatMap f)[i * s + k]? = (f x)[k]?
  | [], i, k, x, h, _ => by simp at h
  | y :: l, 0, k, x, h, hk => by
    simp at h
    subst h
    rw [List.flatMap_cons, Nat.zero_mul, Nat.zero_add, List.getElem?_append_left (by rw [hf]; exact hk)]
  | y :: l, i + 1, k, x, h, hk => by
    have h2 : l[i]? = some x := by simpa using h
    rw [List.flatMap_cons, List.getElem?_append_right (by rw [hf, Nat.add_mul]; omega), hf, show (i + 1) * s + k - s = i * s + k by rw [Nat.add_mul]; omega]
    exact flat_get9 f s hf l i k x h2 hk
theorem row_open {w : World} {B : Nat} {e : TypeId} {size n : Nat} {v : Value} {xs : List Value} (h : w.ownsRow B e size v n xs) :
    ∃ a c, v = .slice a n c ∧ (n ≤ c ∧ c ≤ maxLen) ∧ ∀ i, i < n → ∃ g, a = some ⟨g, 0, none⟩ ∧ g < w.heap.size ∧ ∀ j, j < n * size → w.cell? ⟨g, j, none⟩ = xs[j]? := by
  have h0 := h
  rcases h.2 with ⟨rfl, rfl⟩ | ⟨g, cap, cur, rfl, _, hg, hc, hm, _⟩
  · exact ⟨none, 0, rfl, ⟨Nat.le_refl _, Nat.zero_le _⟩, fun i hi => absurd hi (Nat.not_lt_zero _)⟩
  · exact ⟨_, _, rfl, ⟨hc, hm⟩, fun i hi => ⟨g, rfl, (Array.getElem?_eq_some_iff.1 hg).1, fun j hj => h0.cellAt j hj⟩⟩
theorem iarg_own {w : World} {B : Nat} {v : Value} {l : List Int} (h : w.ownsRow B 3 1 v l.length (l.map (Value.int .i64))) : IArg w v l := by
  obtain ⟨a, c, hv, hm, hr⟩ := row_open h
  refine ⟨a, c, hv, hm, fun i z hz => ?_⟩
  have hi : i < l.length := (List.getElem?_eq_some_iff.1 hz).1
  obtain ⟨g, ha, hg, hc⟩ := hr i hi
  exact ⟨g, 0, ha, hg, by rw [Nat.zero_add, hc i (by omega), List.getElem?_map, hz]; rfl⟩
theorem rarg_own {w : World} {B base : Nat} {v : Value} {l : List (List Int)} (h : LSr B base w v l) : RArg w v l := by
  obtain ⟨cells, h1, h2⟩ := h
  obtain ⟨a, c, hv, hm, hr⟩ := row_open h1
  refine ⟨a, c, hv, hm, fun i z hz => ?_⟩
  have hi : i < l.length := (List.getElem?_eq_some_iff.1 hz).1
  obtain ⟨g, ha, hg, hc⟩ := hr i hi
  obtain ⟨x, hx, ho⟩ := h2 i z hz
  exact ⟨g, 0, x, ha, hg, by rw [Nat.zero_add, hc i (by omega), hx], iarg_own ho⟩
theorem larg_own {w : World} {B : Nat} {v : Value} {l : List MLit} (h : w.ownsRow B 88 3 v l.length (l.flatMap litC)) : LArg w v l := by
  obtain ⟨a, c, hv, hm, hr⟩ := row_open h
  refine ⟨a, c, hv, hm, fun i z hz => ?_⟩
  have hi : i < l.length := (List.getElem?_eq_some_iff.1 hz).1
  obtain ⟨g, ha, hg, hc⟩ := hr i hi
  have hf := flat_get9 litC 3 (fun _ => rfl) l i
  exact ⟨g, 0, ha, hg, by rw [Nat.zero_add, hc _ (by omega)]; exact hf 0 z hz (by omega), by rw [Nat.zero_add, hc _ (by omega)]; exact hf 1 z hz (by omega), by rw [Nat.zero_add, hc _ (by omega)]; exact hf 2 z hz (by omega)⟩
theorem varg_own {w : World} {B : Nat} {v : Value} {l : List MVar} (h : w.ownsRow B 71 3 v l.length (l.flatMap varC)) (hs : ∀ x ∈ l, x.name.size ≤ maxLen) : VArg w v l := by
  obtain ⟨a, c, hv, hm, hr⟩ := row_open h
  refine ⟨a, c, hv, hm, fun i z hz => ⟨hs z (List.mem_of_getElem? hz), ?_⟩⟩
  have hi : i < l.length := (List.getElem?_eq_some_iff.1 hz).1
  obtain ⟨g, ha, hg, hc⟩ := hr i hi
  have hf := flat_get9 varC 3 (fun _ => rfl) l i
  exact ⟨g, 0, ha, hg, by rw [Nat.zero_add, hc _ (by omega)]; exact hf 0 z hz (by omega), by rw [Nat.zero_add, hc _ (by omega)]; exact hf 1 z hz (by omega), by rw [Nat.zero_add, hc _ (by omega)]; exact hf 2 z hz (by omega)⟩
theorem karg_own {w : World} {B : Nat} {vv vc vr vl : Value} {c : MCon} (h : ConR B w vv vc vr vl c) : KArg w vv vc vr vl c := ⟨iarg_own h.1, iarg_own h.2.1, rarg_own h.2.2.1, larg_own h.2.2.2⟩
theorem carg_own {w : World} {B : Nat} {v : Value} {l : List MCon} (h : LCr B w v l) : CArg w v l := by
  obtain ⟨cells, h1, h2⟩ := h
  obtain ⟨a, c, hv, hm, hr⟩ := row_open h1
  refine ⟨a, c, hv, hm, fun i z hz => ?_⟩
  have hi : i < l.length := (List.getElem?_eq_some_iff.1 hz).1
  obtain ⟨g, ha, hg, hc⟩ := hr i hi
  obtain ⟨vv, vc, vr, vl, hcl, ho⟩ := h2 i z hz
  refine ⟨g, 0, vv, vc, vr, vl, ha, hg, ?_, ?_, ?_, ?_, ?_, ?_, karg_own ho⟩
  · rw [Nat.zero_add, hc _ (by omega)]; exact hcl 0 (by omega)
  · rw [Nat.zero_add, hc _ (by omega)]; exact hcl 1 (by omega)
  · rw [Nat.zero_add, hc _ (by omega)]; exact hcl 2 (by omega)
  · rw [Nat.zero_add, hc _ (by omega)]; exact hcl 3 (by omega)
  · rw [Nat.zero_add, hc _ (by omega)]; exact hcl 4 (by omega)
  · rw [Nat.zero_add, hc _ (by omega)]; exact hcl 5 (by omega)

/-- A model whose lists were made above a block. -/
def ModR (B : Nat) (w : World) (vs cs : Value) (m : Mod) : Prop := w.ownsRow B 71 3 vs m.vars.length (m.vars.flatMap varC) ∧ LCr B w cs m.cons ∧ ∀ x ∈ m.vars, x.name.size ≤ maxLen
theorem ModR.marg {B : Nat} {w : World} {vs cs : Value} {m : Mod} (h : ModR B w vs cs m) : MArg w vs cs m := ⟨varg_own h.1 h.2.2, carg_own h.2.1⟩
theorem ModR.fr {X : Nat → Prop} {B : Nat} {w w' : World} {vs cs : Value} {m : Mod} (h : ModR B w vs cs m) (hf : Fr X w w') (hX : ∀ k, X k → k < B) : ModR B w' vs cs m := ⟨own_fr h.1 hf hX, h.2.1.fr hf hX, h.2.2⟩
theorem ModR.below {B : Nat} {w w' : World} {vs cs : Value} {m : Mod} (h : ModR B w vs cs m) (hb : Below w.heap.size w w') : ModR B w' vs cs m := h.fr (X := fun _ => False) (Fr.below hb) (fun _ hk => hk.elim)
theorem ModR.mono {B B' : Nat} {w : World} {vs cs : Value} {m : Mod} (h : ModR B w vs cs m) (hb : B' ≤ B) : ModR B' w vs cs m := by
  obtain ⟨h1, ⟨cells, h2, h3⟩, h4⟩ := h
  refine ⟨own_mono9 h1 hb, ⟨cells, own_mono9 h2 hb, fun i c hc => ?_⟩, h4⟩
  obtain ⟨vv, vc, vr, vl, hcl, ho⟩ := h3 i c hc
  exact ⟨vv, vc, vr, vl, hcl, ho.mono hb⟩
def noMod : Mod := ⟨[], [], 0, 0⟩
def readA (en : Int) (l : List Tok) : Mod × Int × Int := match modelP en l with
  | .ok m _ => (m, 0, 0)
  | .bad x e => (noMod, x, e)
theorem modr_none (B : Nat) (w : World) : ModR B w (.slice none 0 0) (.slice none 0 0) noMod := ⟨World.ownsRow_nil _ _ _ _, LCr.none _ _, fun x hx => by simp [noMod] at hx⟩
theorem read_world (w : World) (v : Value) (l : List Tok) (en : Int) (hv : TArg w.heap.size w v l) (W : World)
    (hW : W = ((((w.alloc (.cells #[.slice none 0 0, .slice none 0 0, .int .i64 0, .int .i64 0] 25)).alloc (.cells #[.int .i64 0] 3)).alloc (.cells #[.int .i64 0] 30)).alloc (.map #[] 0)).alloc (.cells #[v, .int .i64 en, .map (some (w.heap.size + 1 + 1 + 1))] 177)) :
    Rd w.heap.size (w.heap.size + 1 + 1 + 1 + 1) (w.heap.size + 1 + 1 + 1) en W l ∧ NmS W (w.heap.size + 1 + 1 + 1) [] ∧ Three w.heap.size 0 0 W W ∧ Below w.heap.size w W ∧ W.heap.size = w.heap.size + 5 := by
  obtain ⟨w1, e1⟩ : ∃ w1, w1 = w.alloc (.cells #[.slice none 0 0, .slice none 0 0, .int .i64 0, .int .i64 0] 25) := ⟨_, rfl⟩
  rw [← e1] at hW
  obtain ⟨w2, e2⟩ : ∃ w2, w2 = w1.alloc (.cells #[.int .i64 0] 3) := ⟨_, rfl⟩
  rw [← e2] at hW
  obtain ⟨w3, e3⟩ : ∃ w3, w3 = w2.alloc (.cells #[.int .i64 0] 30) := ⟨_, rfl⟩
  rw [← e3] at hW
  obtain ⟨w4, e4⟩ : ∃ w4, w4 = w3.alloc (.map #[] 0) := ⟨_, rfl⟩
  rw [← e4] at hW
  have s1 : w1.heap.size = w.heap.size + 1 := by rw [e1]; simp
  have s2 : w2.heap.size = w.heap.size + 1 + 1 := by rw [e2]; simp [s1]
  have s3 : w3.heap.size = w.heap.size + 1 + 1 + 1 := by rw [e3]; simp [s2]
  have s4 : w4.heap.size = w.heap.size + 1 + 1 + 1 + 1 := by rw [e4]; simp [s3]
  have s5 : W.heap.size = w.heap.size + 1 + 1 + 1 + 1 + 1 := by rw [hW]; simp [s4]
  have b1 : Below w.heap.size w w1 := by rw [e1]; exact below_alloc _ _
  have b2 : Below w1.heap.size w1 w2 := by rw [e2]; exact below_alloc _ _
  have b3 : Below w2.heap.size w2 w3 := by rw [e3]; exact below_alloc _ _
  have b4 : Below w3.heap.size w3 w4 := by rw [e4]; exact below_alloc _ _
  have b5 : Below w4.heap.size w4 W := by rw [hW]; exact below_alloc _ _
  have h1 : w1.heap[w.heap.size]? = some (.cells #[.slice none 0 0, .slice none 0 0, .int .i64 0, .int .i64 0] 25) := by rw [e1]; exact heap_alloc_new _ _
  have h2 : w2.heap[w1.heap.size]? = some (.cells #[.int .i64 0] 3) := by rw [e2]; exact heap_alloc_new _ _
  have h3 : w3.heap[w2.heap.size]? = some (.cells #[.int .i64 0] 30) := by rw [e3]; exact heap_alloc_new _ _
  have h5 : W.heap[w4.heap.size]? = some (.cells #[v, .int .i64 en, .map (some (w.heap.size + 1 + 1 + 1))] 177) := by rw [hW]; exact heap_alloc_new _ _
  have hn : NmS w4 w3.heap.size [] := by rw [e4]; exact World.ownsMap_made _ _ _ _
  have hb : Below w.heap.size w W := b1.trans ((b2.mono (by omega)).trans ((b3.mono (by omega)).trans ((b4.mono (by omega)).trans (b5.mono (by omega)))))
  rw [s1] at h2
  rw [s2] at h3
  rw [s4] at h5
  rw [s3] at hn
  refine ⟨⟨⟨by omega, hb.size, by omega⟩, v, h5, hv.old fun p hp => hb.cell hp⟩, hn.old (b5.block _ (by omega)), ⟨?_, ?_, ?_, Fr.refl _ _⟩, hb, by omega⟩
  · exact (b5.block _ (by omega)).trans ((b4.block _ (by omega)).trans ((b3.block _ (by omega)).trans ((b2.block _ (by omega)).trans h1)))
  · exact (b5.block _ (by omega)).trans ((b4.block _ (by omega)).trans ((b3.block _ (by omega)).trans h2))
  · exact (b5.block _ (by omega)).trans ((b4.block _ (by omega)).trans h3)
theorem Three.fr {X : Nat → Prop} {b : Nat} {x er : Int} {w0 w w' : World} (h : Three b x er w0 w) (hf : Fr X w w') (h0 : ¬ X b) (h1 : ¬ X (b + 1)) (h2 : ¬ X (b + 2)) : Three b x er w' w' :=
  ⟨(hf.block _ (Array.getElem?_eq_some_iff.1 h.1).1 h0).trans h.1, (hf.block _ (Array.getElem?_eq_some_iff.1 h.2.1).1 h1).trans h.2.1, (hf.block _ (Array.getElem?_eq_some_iff.1 h.2.2.1).1 h2).trans h.2.2.1, Fr.refl _ _⟩
set_option maxHeartbeats 1600000 in
set_option maxRecDepth 100000 in
theorem read_any (v : Value) (l : List Tok) (en : Int) (w : World) (hv : TArg w.heap.size w v l) :
    Calls Tryz.prog 69 #[v, .int .i64 en] w fun e w' => ∃ vs cs, e = .returned (.tuple #[modV vs cs (readA en l).1, .int .i64 (readA en l).2.1, .int .i64 (readA en l).2.2]) ∧ ModR w.heap.size w' vs cs (readA en l).1 ∧ Below w.heap.size w w' := by
  have HV : Hid (TArg w.heap.size w v l) := hv
  obtain ⟨a, c, rfl, _⟩ := hv
  obtain ⟨m0, x0, e0, hA⟩ : ∃ m0 x0 e0, readA en l = (m0, x0, e0) := ⟨_, _, _, rfl⟩
  have HA : Hid (readA en l = (m0, x0, e0)) := hA
  rw [hA]
  simp only
  clear hA
  have hmf : ∀ (fn : Fn) (first cap : Array Value) (w : World), (Instr.makeFunc fn first cap).run Tryz.prog w = .ok (.func fn first cap) w := fun _ _ _ _ => rfl
  have hmm := @run_makeMap Tryz.prog
  go_enter_defers Tryz.func69, Tryz.ntmps69
  go_wp2_with fail
  obtain ⟨W, hW⟩ : ∃ W, W = ((((w.alloc (.cells #[.slice none 0 0, .slice none 0 0, .int .i64 0, .int .i64 0] 25)).alloc (.cells #[.int .i64 0] 3)).alloc (.cells #[.int .i64 0] 30)).alloc (.map #[] 0)).alloc (.cells #[.slice a l.length c, .int .i64 en, .map (some (w.heap.size + 1 + 1 + 1))] 177) := ⟨_, rfl⟩
  have HRW : Hid (Rd w.heap.size (w.heap.size + 1 + 1 + 1 + 1) (w.heap.size + 1 + 1 + 1) en W l ∧ NmS W (w.heap.size + 1 + 1 + 1) [] ∧ Three w.heap.size 0 0 W W ∧ Below w.heap.size w W ∧ W.heap.size = w.heap.size + 5) := read_world w _ l en HV.out W hW
  rw [← hW]
  clear hW hmf hmm
  refine (rmodel_any w.heap.size (w.heap.size + 1 + 1 + 1 + 1) (w.heap.size + 1 + 1 + 1) en W l HRW.out.1 HRW.out.2.1 (by omega)).mono ?_
  intro e w1 hp
  cases hs : modelP en l with
  | bad x er =>
    rw [hs] at hp
    obtain ⟨rfl, hfr⟩ := hp
    have HPB : Hid (m0 = noMod ∧ x0 = x ∧ e0 = er) := by have h := HA.out; unfold readA at h; rw [hs] at h; cases h; exact ⟨rfl, rfl, rfl⟩
    have HF : Hid (Fr (XRM (w.heap.size + 1 + 1 + 1 + 1) (w.heap.size + 1 + 1 + 1)) W w1) := hfr
    have HT1 : Hid (Three w.heap.size 0 0 w1 w1) := HRW.out.2.2.1.fr hfr (fun h => by rcases h with h | h <;> omega) (fun h => by rcases h with h | h <;> omega) (fun h => by rcases h with h | h <;> omega)
    clear hs hfr
    go_wp2
    refine leaves_cons (f := 123) (args := #[.pointer (some ⟨w.heap.size, 0, none⟩), .pointer (some ⟨w.heap.size + 1, 0, none⟩), .pointer (some ⟨w.heap.size + 2, 0, none⟩)]) (by simp) (by simp [go_sem]) ?_
    refine (catch_bad w.heap.size x er w1 HT1.out).mono ?_
    rintro e u' w2 ⟨rfl, rfl, h0, h1, h2, hfr2⟩
    have HE : Hid (Below w.heap.size w w2) := Fr.toBelow (((Fr.below HRW.out.2.2.2.1).trans (HF.out.weak fun k hk => by rcases hk with rfl | rfl <;> omega)).trans (hfr2.weak fun k hk => by omega))
    have r0 := blk9 h0 0 _ rfl
    have r1 := blk9 h0 1 _ rfl
    have r2 := blk9 h0 2 _ rfl
    have r3 := blk9 h0 3 _ rfl
    have r4 := blk9 h1 0 _ rfl
    have r5 := blk9 h2 0 _ rfl
    clear h0 h1 h2 hfr2
    obtain ⟨k0, k1, k2⟩ := HPB.out
    subst k0 k1 k2
    simp [Leaves, settle, results, Tryz.results69, go_sem, r0, r1, r2, r3, r4, r5]
    exact ⟨_, _, rfl, modr_none _ _, HE.out⟩
  | ok m r =>
    rw [hs] at hp
    obtain ⟨v, rfl, ⟨vs, cs, rfl, hvo, hco, hsz, hvl, hcl⟩, hrd, hfr⟩ := hp
    have HPB : Hid (m0 = m ∧ x0 = 0 ∧ e0 = 0) := by have h := HA.out; unfold readA at h; rw [hs] at h; cases h; exact ⟨rfl, rfl, rfl⟩
    have HF : Hid (Fr (XRM (w.heap.size + 1 + 1 + 1 + 1) (w.heap.size + 1 + 1 + 1)) W w1) := hfr
    have HT1 : Hid (Three w.heap.size 0 0 w1 w1) := HRW.out.2.2.1.fr hfr (fun h => by rcases h with h | h <;> omega) (fun h => by rcases h with h | h <;> omega) (fun h => by rcases h with h | h <;> omega)
    have HVO : Hid (w1.ownsRow W.heap.size 71 3 vs m.vars.length (m.vars.flatMap varC)) := hvo
    have HCO : Hid (LCr W.heap.size w1 cs m.cons) := hco
    have HSZ : Hid (∀ x ∈ m.vars, x.name.size ≤ maxLen) := hsz
    obtain ⟨a1, c1, hv1⟩ := own_form hvo
    obtain ⟨a2, c2, hv2⟩ := hco.form
    subst hv1 hv2
    obtain ⟨h0, h1, h2, _⟩ := HT1.out
    have r0 := blk9 h0 0 _ rfl
    have r1 := blk9 h0 1 _ rfl
    have r2 := blk9 h0 2 _ rfl
    have r3 := blk9 h0 3 _ rfl
    have r4 := blk9 h1 0 _ rfl
    have r5 := blk9 h2 0 _ rfl
    have z0 := frz9 h0 0
    have z1 := frz9 h0 1
    have z2 := frz9 h0 2
    have z3 := frz9 h0 3
    have z4 := frz9 h1 0
    have z5 := frz9 h2 0
    clear hs hfr hrd hvo hco hsz hvl hcl h0 h1 h2
    unfold modV
    go_wp2
    refine leaves_cons (f := 123) (args := #[.pointer (some ⟨w.heap.size, 0, none⟩), .pointer (some ⟨w.heap.size + 1, 0, none⟩), .pointer (some ⟨w.heap.size + 2, 0, none⟩)]) (by simp) (by simp [go_sem]) ?_
    refine (catch_idle w.heap.size _).mono ?_
    rintro e u' w2 ⟨rfl, rfl, rfl⟩
    obtain ⟨k0, k1, k2⟩ := HPB.out
    subst k0 k1 k2
    simp [Leaves, settle, results, Tryz.results69, go_sem, *]
    have hsW := HRW.out.2.2.2.2
    have fE : Fr (fun k => k = w.heap.size ∨ k = w.heap.size + 1 ∨ k = w.heap.size + 2) w1 _ := ((((((Fr.refl _ w1).setX (p := ⟨w.heap.size, 0, none⟩) (Or.inl rfl) (.slice a1 m0.vars.length c1)).setX (p := ⟨w.heap.size, 1, none⟩) (Or.inl rfl) (.slice a2 m0.cons.length c2)).setX (p := ⟨w.heap.size, 2, none⟩) (Or.inl rfl) (.int .i64 m0.goal)).setX (p := ⟨w.heap.size, 3, none⟩) (Or.inl rfl) (.int .i64 m0.var)).setX (p := ⟨w.heap.size + 1, 0, none⟩) (Or.inr (Or.inl rfl)) (.int .i64 0)).setX (p := ⟨w.heap.size + 1 + 1, 0, none⟩) (Or.inr (Or.inr rfl)) (.int .i64 0)
    refine ⟨_, _, rfl, (ModR.fr (B := W.heap.size) (m := m0) ⟨HVO.out, HCO.out, HSZ.out⟩ fE (fun k hk => by omega)).mono (by omega), ?_⟩
    exact Fr.toBelow (((Fr.below HRW.out.2.2.2.1).trans (HF.out.weak fun k hk => by rcases hk with rfl | rfl <;> omega)).trans (fE.weak fun k hk => by omega))
end Go.Proofs.YtdjbejlbmaiocagGreatDoor
/-
  PLAIN: tokens as they are scanned are as the reader wants them. WALK: package text: Parse.
-/
namespace Go.Proofs.YtdjbejlbmaiocagGreatDoor
open Go.RowKit

theorem extract_list (s : ByteArray) (a b : Nat) : (s.extract a b).data.toList = (s.data.toList.drop a).take (b - a) := by
  rw [ByteArray.data_extract, Array.toList_extract]
theorem take_while_all (p : UInt8 → Bool) : ∀ (l : List UInt8), ∀ c ∈ l.take (l.takeWhile p).length, p c = true
  | [], c, h => by simp at h
  | x :: l, c, h => by
    by_cases hx : p x = true
    · rw [List.takeWhile_cons_of_pos hx] at h
      simp only [List.length_cons, List.take_succ_cons, List.mem_cons] at h
      rcases h with rfl | h
      · exact hx
      · exact take_while_all p l c h
    · rw [List.takeWhile_cons_of_neg hx] at h
      simp at h
theorem tok_ok (s : ByteArray) (hs : s.size ≤ 4000) (j : Nat) (hj : j < s.size) (he : errOf (tokAt s j).kind (tokAt s j).text = 0) : TokOk (tokAt s j) := by
  refine ⟨Nat.le_trans (tokAt_size s j) hs, fun hk => ?_⟩
  have hk0 := kind_of_ok s j he
  have hlj : j < s.data.toList.length := by rw [len_size]; exact hj
  have hgt := endOf_gt _ _ hlj hk0
  have hle := (endOf_le _ _ hlj).2
  rw [len_size] at hle
  have ht : tokAt s j = ⟨kindOf s.data.toList j, j, s.extract j (endOf s.data.toList j)⟩ := by unfold tokAt; rw [if_neg hk0]
  rw [hk] at he
  rw [ht] at he hk ⊢
  simp only at he hk ⊢
  have hsz : (s.extract j (endOf s.data.toList j)).size = endOf s.data.toList j - j := size_extract s _ _ hle
  refine ⟨⟨by omega, ?_⟩, ?_⟩
  · unfold errOf at he
    rw [if_neg (by decide), if_pos rfl] at he
    split at he
    · cases he
    · omega
  · have hk2 : kindOf s.data.toList j = 2 := by omega
    have hL : ¬ isL (byteAt s.data.toList j) = true := by
      intro h; unfold kindOf at hk2; rw [if_pos h] at hk2; cases hk2
    have hD : isD (byteAt s.data.toList j) = true := by
      unfold kindOf at hk2; rw [if_neg hL] at hk2
      by_cases h : isD (byteAt s.data.toList j) = true
      · exact h
      · rw [if_neg h] at hk2; split at hk2 <;> cases hk2
    have hend : endOf s.data.toList j = runTo isD s.data.toList j := by unfold endOf; rw [if_neg hL, if_pos hD]
    intro c hc
    rw [extract_list, hend] at hc
    unfold runTo at hc
    rw [Nat.add_sub_cancel_left] at hc
    have := take_while_all isD _ c hc
    unfold isD at this
    simp at this
    omega
theorem scanF_toks (s : ByteArray) (hs : s.size ≤ 4000) : ∀ (f k : Nat) (acc : List Tok), (∀ t ∈ acc, TokOk t) → k ≤ s.size → acc.length ≤ k → (∀ t ∈ (scanF f s k acc).1, TokOk t) ∧ (scanF f s k acc).1.length ≤ s.size := by
  intro f
  induction f with
  | zero => intro k acc h1 h2 h3; exact ⟨h1, by simp only [scanF]; omega⟩
  | succ f ih =>
    intro k acc h1 h2 h3
    have hk := skipTo_le false s.data.toList k (by rw [len_size]; exact h2)
    by_cases h4 : skipTo false s.data.toList k < s.size
    · by_cases h5 : errOf (tokAt s (skipTo false s.data.toList k)).kind (tokAt s (skipTo false s.data.toList k)).text = 0
      · rw [scanF_next f s k _ acc rfl h4 h5]
        have hlj : skipTo false s.data.toList k < s.data.toList.length := by rw [len_size]; exact h4
        have hgt := endOf_gt _ _ hlj (kind_of_ok s _ h5)
        have hle := (endOf_le _ _ hlj).2
        rw [len_size] at hle
        refine ih _ _ (fun t ht => ?_) hle (by simp; omega)
        rcases List.mem_append.1 ht with ht | ht
        · exact h1 t ht
        · rw [List.mem_singleton.1 ht]; exact tok_ok s hs _ h4 h5
      · rw [scanF_err f s k _ acc rfl h4 h5]; exact ⟨fun t ht => (by cases ht), (by simp)⟩
    · rw [scanF_end _ s k acc h4]; exact ⟨h1, by simp only; omega⟩
theorem scan_toks (s : ByteArray) : (∀ t ∈ (scanOf s).1, TokOk t) ∧ (scanOf s).1.length ≤ 4000 := by
  unfold scanOf
  split
  · exact ⟨fun t ht => (by cases ht), (by simp)⟩
  · obtain ⟨h1, h2⟩ := scanF_toks s (by omega) (s.size + 1) 0 [] (fun t ht => (by cases ht)) (Nat.zero_le _) (Nat.le_refl _)
    exact ⟨h1, by omega⟩
theorem targ_own {w : World} {B : Nat} {v : Value} {l : List Tok} (h : w.ownsRow B 158 3 v l.length (toksCells l)) (hl : l.length ≤ 4000) (ht : ∀ t ∈ l, TokOk t) : TArg w.heap.size w v l := by
  obtain ⟨a, c, hv, hm, hr⟩ := row_open h
  refine ⟨a, c, hv, hm, ⟨hl, ht⟩, fun i z hz => ?_⟩
  have hi : i < l.length := (List.getElem?_eq_some_iff.1 hz).1
  obtain ⟨g, ha, hg, hc⟩ := hr i hi
  have hf := flat_get9 tokCells 3 (fun _ => rfl) l i
  exact ⟨g, 0, ha, hg, by rw [Nat.zero_add, hc _ (by omega)]; exact hf 0 z hz (by omega), by rw [Nat.zero_add, hc _ (by omega)]; exact hf 1 z hz (by omega), by rw [Nat.zero_add, hc _ (by omega)]; exact hf 2 z hz (by omega)⟩
/-- What Parse answers. -/
def parseA (s : ByteArray) : Mod × Int × Int :=
  if (scanOf s).2.2 = 0 then
    if (readA s.size (scanOf s).1).2.2 = 0 then
      if checkM (readA s.size (scanOf s).1).1 = 0 then ((readA s.size (scanOf s).1).1, 0, 0) else (noMod, 0, checkM (readA s.size (scanOf s).1).1)
    else (noMod, (readA s.size (scanOf s).1).2.1, (readA s.size (scanOf s).1).2.2)
  else (noMod, (scanOf s).2.1, (scanOf s).2.2)
theorem parse_ok {s : ByteArray} {ts : List Tok} {a : Nat} {m : Mod} {x : Int} (hs : scanOf s = (ts, a, 0)) (hr : readA s.size ts = (m, x, 0)) (hc : checkM m = 0) : parseA s = (m, 0, 0) := by
  unfold parseA; simp [hs, hr, hc]
theorem parse_check {s : ByteArray} {ts : List Tok} {a : Nat} {m : Mod} {x : Int} (hs : scanOf s = (ts, a, 0)) (hr : readA s.size ts = (m, x, 0)) (hc : ¬ checkM m = 0) : parseA s = (noMod, 0, checkM m) := by
  unfold parseA; simp [hs, hr, hc]
theorem parse_read {s : ByteArray} {ts : List Tok} {a : Nat} {m : Mod} {x e : Int} (hs : scanOf s = (ts, a, 0)) (hr : readA s.size ts = (m, x, e)) (he : ¬ e = 0) : parseA s = (noMod, x, e) := by
  unfold parseA; simp [hs, hr, he]
theorem parse_scan {s : ByteArray} {ts : List Tok} {a : Nat} {e : Int} (hs : scanOf s = (ts, a, e)) (he : ¬ e = 0) : parseA s = (noMod, (a : Int), e) := by
  unfold parseA; simp [hs, he]
theorem ret4 {w w1 : World} (h : Below w.heap.size w w1) (u0 u1 u2 u3 : Value) : Below w.heap.size w ((((w1.setCell ⟨w.heap.size, 0, none⟩ u0).setCell ⟨w.heap.size, 1, none⟩ u1).setCell ⟨w.heap.size, 2, none⟩ u2).setCell ⟨w.heap.size, 3, none⟩ u3) :=
  Fr.toBelow (((((Fr.below (X := fun k => w.heap.size ≤ k) h).setX (p := ⟨w.heap.size, 0, none⟩) (Nat.le_refl _) u0).setX (p := ⟨w.heap.size, 1, none⟩) (Nat.le_refl _) u1).setX (p := ⟨w.heap.size, 2, none⟩) (Nat.le_refl _) u2).setX (p := ⟨w.heap.size, 3, none⟩) (Nat.le_refl _) u3)
theorem ret4_mod {w w1 : World} {B : Nat} {vs cs : Value} {m : Mod} (h : ModR B w1 vs cs m) (hB : w.heap.size < B) (u0 u1 u2 u3 : Value) : ModR w.heap.size ((((w1.setCell ⟨w.heap.size, 0, none⟩ u0).setCell ⟨w.heap.size, 1, none⟩ u1).setCell ⟨w.heap.size, 2, none⟩ u2).setCell ⟨w.heap.size, 3, none⟩ u3) vs cs m :=
  (h.fr (((((Fr.refl (fun k => k < B) w1).setX (p := ⟨w.heap.size, 0, none⟩) hB u0).setX (p := ⟨w.heap.size, 1, none⟩) hB u1).setX (p := ⟨w.heap.size, 2, none⟩) hB u2).setX (p := ⟨w.heap.size, 3, none⟩) hB u3) (fun _ hk => hk)).mono (Nat.le_of_lt hB)
set_option maxHeartbeats 1600000 in
set_option maxRecDepth 100000 in
theorem parse_any (s : ByteArray) (hs : s.size ≤ maxLen) (w : World) :
    Calls Tryz.prog 28 #[.string s] w fun e w' => ∃ vs cs, e = .returned (.tuple #[modV vs cs (parseA s).1, .int .i64 (parseA s).2.1, .int .i64 (parseA s).2.2]) ∧ ModR w.heap.size w' vs cs (parseA s).1 ∧ Below w.heap.size w w' := by
  obtain ⟨m0, x0, e0, hA⟩ : ∃ m0 x0 e0, parseA s = (m0, x0, e0) := ⟨_, _, _, rfl⟩
  have HA : Hid (parseA s = (m0, x0, e0)) := hA
  rw [hA]
  simp only
  clear hA
  obtain ⟨ts, at1, e1, hsc⟩ : ∃ ts at1 e1, scanOf s = (ts, at1, e1) := ⟨_, _, _, rfl⟩
  have HSC : Hid (scanOf s = (ts, at1, e1)) := hsc
  have HTK : Hid ((∀ t ∈ ts, TokOk t) ∧ ts.length ≤ 4000) := by have h := scan_toks s; rw [hsc] at h; exact h
  have HSS : Hid (s.size ≤ maxLen) := hs
  clear hsc
  unfold maxLen at hs
  go_enter Tryz.func28, Tryz.ntmps28
  go_wp2_with fail
  have HBA := below_alloc w (.cells #[.slice none 0 0, .slice none 0 0, .int .i64 0, .int .i64 0] 25)
  have HQ0 : (w.alloc (.cells #[.slice none 0 0, .slice none 0 0, .int .i64 0, .int .i64 0] 25)).heap[w.heap.size]? = some (.cells #[.slice none 0 0, .slice none 0 0, .int .i64 0, .int .i64 0] 25) := heap_alloc_new _ _
  refine (scan_all s HSS.out _).mono ?_
  rw [HSC.out]
  rintro e w1 ⟨v1, rfl, hown1, hb1⟩
  have HO1 : Hid (TArg w1.heap.size w1 v1 ts) := targ_own hown1 HTK.out.2 HTK.out.1
  have HB1 : Hid (Below w.heap.size w w1) := HBA.trans (hb1.mono (by simp))
  have HQ1 : Hid (w1.heap[w.heap.size]? = some (.cells #[.slice none 0 0, .slice none 0 0, .int .i64 0, .int .i64 0] 25)) := (hb1.block _ (by simp)).trans HQ0
  obtain ⟨av, cv, hv1⟩ := own_form hown1
  subst hv1
  clear hown1 hb1 HBA HQ0
  by_cases he1 : e1 = 0
  · subst he1
    go_wp2_with fail
    refine (read_any _ ts _ w1 HO1.out).mono ?_
    obtain ⟨m2, x2, e2, hR⟩ : ∃ m2 x2 e2, readA s.size ts = (m2, x2, e2) := ⟨_, _, _, rfl⟩
    have HR : Hid (readA s.size ts = (m2, x2, e2)) := hR
    rw [hR]
    simp only
    clear hR
    rintro e w2 ⟨vs, cs, rfl, hma, hb2⟩
    have HMA : Hid (ModR w1.heap.size w2 vs cs m2) := hma
    have HWW : Hid (w.heap.size < w1.heap.size) := (Array.getElem?_eq_some_iff.1 HQ1.out).1
    have HB2 : Hid (Below w.heap.size w w2) := HB1.out.trans (hb2.mono HB1.out.size)
    have HQ2 : Hid (w2.heap[w.heap.size]? = some (.cells #[.slice none 0 0, .slice none 0 0, .int .i64 0, .int .i64 0] 25)) := (hb2.block _ (Array.getElem?_eq_some_iff.1 HQ1.out).1).trans HQ1.out
    obtain ⟨a1, c1, hv2⟩ := own_form hma.1
    obtain ⟨a2, c2, hv3⟩ := hma.2.1.form
    subst hv2 hv3
    clear hma
    clear hb2
    by_cases he2 : e2 = 0
    · subst he2
      obtain ⟨ce, hce⟩ : ∃ ce, checkM m2 = ce := ⟨_, rfl⟩
      have HCE : Hid (checkM m2 = ce) := hce
      clear hce
      unfold modV
      go_wp2_with fail
      have hlt2 : w.heap.size < w2.heap.size := (Array.getElem?_eq_some_iff.1 HQ2.out).1
      have HM3 : Hid (ModR w1.heap.size (w2.alloc (.cells #[.slice a1 m2.vars.length c1, .slice a2 m2.cons.length c2, .int .i64 m2.goal, .int .i64 m2.var] 25)) (.slice a1 m2.vars.length c1) (.slice a2 m2.cons.length c2) m2) := HMA.out.below (below_alloc _ _)
      have HB3 : Hid (Below w.heap.size w (w2.alloc (.cells #[.slice a1 m2.vars.length c1, .slice a2 m2.cons.length c2, .int .i64 m2.goal, .int .i64 m2.var] 25))) := HB2.out.trans ((below_alloc _ _).mono HB2.out.size)
      have HQ3 : Hid ((w2.alloc (.cells #[.slice a1 m2.vars.length c1, .slice a2 m2.cons.length c2, .int .i64 m2.goal, .int .i64 m2.var] 25)).heap[w.heap.size]? = some (.cells #[.slice none 0 0, .slice none 0 0, .int .i64 0, .int .i64 0] 25)) := ((below_alloc _ _).block _ hlt2).trans HQ2.out
      have HC3 : Hid ((w2.alloc (.cells #[.slice a1 m2.vars.length c1, .slice a2 m2.cons.length c2, .int .i64 m2.goal, .int .i64 m2.var] 25)).heap[w2.heap.size]? = some (.cells #[.slice a1 m2.vars.length c1, .slice a2 m2.cons.length c2, .int .i64 m2.goal, .int .i64 m2.var] 25)) := heap_alloc_new _ _
      refine (check_model m2 _ _ _ HM3.out.marg).mono ?_
      rw [HCE.out]
      rintro e w4 ⟨rfl, hb4⟩
      have HM4 : Hid (ModR w1.heap.size w4 (.slice a1 m2.vars.length c1) (.slice a2 m2.cons.length c2) m2) := HM3.out.below hb4
      have HB4 : Hid (Below w.heap.size w w4) := HB3.out.trans (hb4.mono HB3.out.size)
      have HQ4 : Hid (w4.heap[w.heap.size]? = some (.cells #[.slice none 0 0, .slice none 0 0, .int .i64 0, .int .i64 0] 25)) := (hb4.block _ (Array.getElem?_eq_some_iff.1 HQ3.out).1).trans HQ3.out
      have HC4 : Hid (w4.heap[w2.heap.size]? = some (.cells #[.slice a1 m2.vars.length c1, .slice a2 m2.cons.length c2, .int .i64 m2.goal, .int .i64 m2.var] 25)) := (hb4.block _ (Array.getElem?_eq_some_iff.1 HC3.out).1).trans HC3.out
      clear hb4 HM3 HB3 HQ3 HC3
      have d0 := blk9 HC4.out 0 _ rfl
      have d1 := blk9 HC4.out 1 _ rfl
      have d2 := blk9 HC4.out 2 _ rfl
      have d3 := blk9 HC4.out 3 _ rfl
      have r0 := blk9 HQ4.out 0 _ rfl
      have r1 := blk9 HQ4.out 1 _ rfl
      have r2 := blk9 HQ4.out 2 _ rfl
      have r3 := blk9 HQ4.out 3 _ rfl
      have z0 := frz9 HQ4.out 0
      have z1 := frz9 HQ4.out 1
      have z2 := frz9 HQ4.out 2
      have z3 := frz9 HQ4.out 3
      by_cases hc : ce = 0
      · subst hc
        have HX : Hid (m0 = m2 ∧ x0 = 0 ∧ e0 = 0) := by
          have h := HA.out
          rw [parse_ok HSC.out HR.out HCE.out] at h
          cases h
          exact ⟨rfl, rfl, rfl⟩
        go_wp2
        refine bodyPost_ret (by simp [results, Tryz.results28, go_sem, *]; try rfl) rfl ?_
        obtain ⟨k0, k1, k2⟩ := HX.out
        subst k0 k1 k2
        exact ⟨_, _, rfl, ret4_mod HM4.out HWW.out _ _ _ _, ret4 HB4.out _ _ _ _⟩
      · have hcb : (ce != 0) = true := by simpa using hc
        have HX : Hid (m0 = noMod ∧ x0 = 0 ∧ e0 = ce) := by
          have h := HA.out
          rw [parse_check HSC.out HR.out (by rw [HCE.out]; exact hc), HCE.out] at h
          cases h
          exact ⟨rfl, rfl, rfl⟩
        clear hc
        go_wp2
        refine bodyPost_ret (by simp [results, Tryz.results28, go_sem, *]; try rfl) rfl ?_
        obtain ⟨k0, k1, k2⟩ := HX.out
        subst k0 k1 k2
        exact ⟨_, _, rfl, modr_none _ _, ret4 HB4.out _ _ _ _⟩
    · have he2b : (e2 != 0) = true := by simpa using he2
      have HX : Hid (m0 = noMod ∧ x0 = x2 ∧ e0 = e2) := by
        have h := HA.out
        rw [parse_read HSC.out HR.out he2] at h
        cases h
        exact ⟨rfl, rfl, rfl⟩
      have r0 := blk9 HQ2.out 0 _ rfl
      have r1 := blk9 HQ2.out 1 _ rfl
      have r2 := blk9 HQ2.out 2 _ rfl
      have r3 := blk9 HQ2.out 3 _ rfl
      have z0 := frz9 HQ2.out 0
      have z1 := frz9 HQ2.out 1
      have z2 := frz9 HQ2.out 2
      have z3 := frz9 HQ2.out 3
      have hlt2 : w.heap.size < w2.heap.size := (Array.getElem?_eq_some_iff.1 HQ2.out).1
      have HB3 : Hid (Below w.heap.size w (w2.alloc (.cells #[.slice a1 m2.vars.length c1, .slice a2 m2.cons.length c2, .int .i64 m2.goal, .int .i64 m2.var] 25))) := HB2.out.trans ((below_alloc _ _).mono HB2.out.size)
      clear he2
      unfold modV
      go_wp2
      refine bodyPost_ret (by simp [results, Tryz.results28, go_sem, *]; try rfl) rfl ?_
      obtain ⟨k0, k1, k2⟩ := HX.out
      subst k0 k1 k2
      refine ⟨_, _, rfl, modr_none _ _, ?_⟩
      rw [← World.setCell_alloc_past _ _ _ _ (by simpa using hlt2), ← World.setCell_alloc_past _ _ _ _ (by simpa using hlt2), ← World.setCell_alloc_past _ _ _ _ (by simpa using hlt2), ← World.setCell_alloc_past _ _ _ _ (by simpa using hlt2)]
      exact ret4 HB3.out _ _ _ _
  · have he1b : (e1 != 0) = true := by simpa using he1
    have HX : Hid (m0 = noMod ∧ x0 = (at1 : Int) ∧ e0 = e1) := by
      have h := HA.out
      rw [parse_scan HSC.out he1] at h
      cases h
      exact ⟨rfl, rfl, rfl⟩
    have r0 := blk9 HQ1.out 0 _ rfl
    have r1 := blk9 HQ1.out 1 _ rfl
    have r2 := blk9 HQ1.out 2 _ rfl
    have r3 := blk9 HQ1.out 3 _ rfl
    have z0 := frz9 HQ1.out 0
    have z1 := frz9 HQ1.out 1
    have z2 := frz9 HQ1.out 2
    have z3 := frz9 HQ1.out 3
    clear he1
    go_wp2
    refine bodyPost_ret (by simp [results, Tryz.results28, go_sem, *]; try rfl) rfl ?_
    obtain ⟨k0, k1, k2⟩ := HX.out
    subst k0 k1 k2
    exact ⟨_, _, rfl, modr_none _ _, ret4 HB1.out _ _ _ _⟩
end Go.Proofs.YtdjbejlbmaiocagGreatDoor
/-
  WALK: package model: Holds.
-/
namespace Go.Proofs.YtdjbejlbmaiocagGreatDoor
open Go.RowKit

set_option maxHeartbeats 1600000 in
set_option maxRecDepth 100000 in
theorem mholds_any (m : Mod) (con : Int) (vals : List Int) (vs cs v : Value) (w : World) (hm : MArg w vs cs m) (hv : IArg w v vals) :
    Calls Tryz.prog 53 #[modV vs cs m, .int .i64 con, v] w fun e w' => e = .returned (.tuple #[.bool (holdsA m con vals).1, .int .i64 (holdsA m con vals).2]) ∧ Below w.heap.size w w' := by
  have HMA : Hid (∀ w' : World, Below w.heap.size w w' → MArg w' vs cs m) := fun w' h => MArg.below h hm
  have HVA : Hid (∀ w' : World, Below w.heap.size w w' → IArg w' v vals) := fun w' h => IArg.below h hv
  obtain ⟨⟨a1, c1, rfl, _, _⟩, ⟨a2, c2, rfl, hl2, hr2⟩⟩ := hm
  obtain ⟨a3, c3, rfl, hl3, hr3⟩ := hv
  have HC : Hid (∀ (i : Nat) (t : MCon), m.cons[i]? = some t → ∃ b off vv vc vr vl, a2 = some ⟨b, off, none⟩ ∧ b < w.heap.size ∧
    w.cell? ⟨b, off + i * 6, none⟩ = some (.int .i64 t.kind) ∧ w.cell? ⟨b, off + i * 6 + 1, none⟩ = some vv ∧ w.cell? ⟨b, off + i * 6 + 2, none⟩ = some vc ∧
    w.cell? ⟨b, off + i * 6 + 3, none⟩ = some (.int .i64 t.n) ∧ w.cell? ⟨b, off + i * 6 + 4, none⟩ = some vr ∧ w.cell? ⟨b, off + i * 6 + 5, none⟩ = some vl ∧ KArg w vv vc vr vl t) := hr2
  have HV : Hid (∀ (i : Nat) (z : Int), vals[i]? = some z → ∃ b off, a3 = some ⟨b, off, none⟩ ∧ b < w.heap.size ∧ w.cell? ⟨b, off + i, none⟩ = some (.int .i64 z)) := hr3
  unfold maxLen at hl2 hl3
  obtain ⟨hl21, hl2⟩ := hl2
  obtain ⟨hl31, hl3⟩ := hl3
  obtain ⟨R, hR⟩ : ∃ R, holdsA m con vals = R := ⟨_, rfl⟩
  rw [hR]
  obtain ⟨er, her⟩ : ∃ er, conCheck m con = er := ⟨_, rfl⟩
  have HER : Hid (conCheck m con = er) := her
  have HE : Hid (R = if er = 0 then
    (if vals.length = m.vars.length then (if vals.all (fun x => inB x 50) then (holdsC (m.cons.getD con.toNat noCon) vals, 0) else (false, 3)) else (false, 1))
    else (false, er)) := by rw [← hR, ← her]; rfl
  clear hR her hr2 hr3
  unfold modV
  go_enter Tryz.func53, Tryz.ntmps53
  go_wp2_with fail
  refine (check_con m con (.slice a1 m.vars.length c1) (.slice a2 m.cons.length c2) _ ?_).mono ?_
  · exact HMA.out _ (below_alloc _ _)
  rintro e w1 ⟨rfl, hb1⟩
  rw [HER.out]
  have d0 : w1.cell? ⟨w.heap.size, 0, none⟩ = some (.slice a1 m.vars.length c1) := (hb1.cell (by simp)).trans (by simp)
  have d1 : w1.cell? ⟨w.heap.size, 1, none⟩ = some (.slice a2 m.cons.length c2) := (hb1.cell (by simp)).trans (by simp)
  have HB1 : Hid (Below w.heap.size w w1) := (below_alloc _ _).trans (hb1.mono (by simp))
  clear hb1
  by_cases he : er = 0
  · subst he
    obtain ⟨o1, o2, o3⟩ := conCheck_ok m con HER.out
    by_cases hl : vals.length = m.vars.length
    · have g0 : ((vals.length : Int) != (m.vars.length : Int)) = false := by simp [hl]
      have HL : Hid (vals.length = m.vars.length) := hl
      have HE2 : Hid (R = if vals.all (fun x => inB x 50) then (holdsC (m.cons.getD con.toNat noCon) vals, 0) else (false, 3)) := by rw [HE.out, if_pos rfl, if_pos hl]; rfl
      have HO1 : Hid (checkM m = 0) := o1
      clear hl o1
      go_wp2_with fail
      go_loop [25] (fun i => ∃ k : Nat, k ≤ vals.length ∧ i = .int .i64 k ∧ Hid ((vals.take k).all (fun x => inB x 50) = true)) (fun i => vals.length - (intOf i).toNat)
      case atStart => exact ⟨0, by omega, rfl, rfl⟩
      case round =>
        obtain ⟨k, hk, rfl, hall⟩ := hrel
        by_cases hlt : k < vals.length
        · obtain ⟨x, hx⟩ : ∃ x, vals[k]? = some x := ⟨vals[k], by simp [hlt]⟩
          obtain ⟨b, off, rfl, hb, e0⟩ := HV.out k x hx
          have e1 := (HB1.out.cell (p := ⟨b, off + k, none⟩) hb).trans e0
          have HX : Hid (vals[k]? = some x) := hx
          clear hx e0 hb
          cases hq : inB x 50
          · have HN : Hid (R = (false, 3)) := by rw [HE2.out, all_hit (fun x => inB x 50) vals k x HX.out hq]; rfl
            go_wp2_with fail
            refine (within_any _ 50 (by omega) (by omega) _).mono ?_
            rintro e w1 ⟨rfl, rfl⟩
            rw [hq]
            clear hq
            go_wp2
            go_ret2
            exact ⟨by rw [HN.out]; rfl, HB1.out⟩
          · have HN : Hid ((vals.take (k + 1)).all (fun x => inB x 50) = true) := all_next (fun x => inB x 50) vals k x HX.out hall.out hq
            go_wp2_with fail
            refine (within_any _ 50 (by omega) (by omega) _).mono ?_
            rintro e w1 ⟨rfl, rfl⟩
            rw [hq]
            clear hq
            go_wp2
            go_round
            case rel => exact ⟨k + 1, by omega, by go_num, HN⟩
            case measure => simp [intOf]; omega
        · have HA : Hid (vals.all (fun x => inB x 50) = true) := all_end _ vals k hlt hall.out
          obtain ⟨j, rfl⟩ : ∃ j : Nat, con = (j : Int) := ⟨con.toNat, by omega⟩
          have hjl : j < m.cons.length := by omega
          obtain ⟨c, hc⟩ : ∃ c, m.cons[j]? = some c := ⟨m.cons[j], by simp [hjl]⟩
          have HN : Hid (R = (holdsC c vals, 0)) := by
            rw [HE2.out, HA.out, if_pos rfl, Int.toNat_natCast, List.getD_eq_getElem?_getD, hc]; rfl
          obtain ⟨b, off, vv, vc, vr, vl, ha, hb, f0, f1, f2, f3, f4, f5, hka⟩ := HC.out j c hc
          subst ha
          have e0 := (HB1.out.cell (p := ⟨b, off + j * 6, none⟩) hb).trans f0
          have e1 := (HB1.out.cell (p := ⟨b, off + j * 6 + 1, none⟩) hb).trans f1
          have e2 := (HB1.out.cell (p := ⟨b, off + j * 6 + 2, none⟩) hb).trans f2
          have e3 := (HB1.out.cell (p := ⟨b, off + j * 6 + 3, none⟩) hb).trans f3
          have e4 := (HB1.out.cell (p := ⟨b, off + j * 6 + 4, none⟩) hb).trans f4
          have e5 := (HB1.out.cell (p := ⟨b, off + j * 6 + 5, none⟩) hb).trans f5
          have HK : Hid (KArg w1 vv vc vr vl c) := KArg.below HB1.out hka
          have HCE : Hid (conE vals.length c = 0) := by rw [HL.out]; exact con_ok m HO1.out j c hc
          have HBD : Hid (∀ x ∈ vals, -50 ≤ x ∧ x ≤ 50) := fun x hx => by
            have := List.all_eq_true.1 HA.out x hx
            simpa [inB] using this
          obtain ⟨⟨q1, r1, rfl, _, _⟩, ⟨q2, r2, rfl, _, _⟩, ⟨q3, r3, rfl, _, _⟩, ⟨q4, r4, rfl, _, _⟩⟩ := hka
          clear hc f0 f1 f2 f3 f4 f5 hb
          go_wp2_with fail
          refine (holds_any c vals _ _ _ _ _ _ HK.out (HVA.out _ HB1.out) HCE.out HBD.out).mono ?_
          rintro e w2 ⟨rfl, hb2⟩
          have hb3 : Below w.heap.size w w2 := HB1.out.trans (hb2.mono HB1.out.size)
          clear hb2
          go_wp2
          go_ret2
          exact ⟨by rw [HN.out]; rfl, hb3⟩
    · have g0 : ((vals.length : Int) != (m.vars.length : Int)) = true := by simp; omega
      have HN : Hid (R = (false, 1)) := by rw [HE.out, if_pos rfl, if_neg hl]; rfl
      clear hl
      go_wp2
      go_ret2
      exact ⟨by rw [HN.out]; rfl, HB1.out⟩
  · have HN : Hid (R = (false, er)) := by rw [HE.out, if_neg he]; rfl
    have he2 : (er != 0) = true := by simpa using he
    clear he
    go_wp2
    go_ret2
    exact ⟨by rw [HN.out]; rfl, HB1.out⟩
end Go.Proofs.YtdjbejlbmaiocagGreatDoor
