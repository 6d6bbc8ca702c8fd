/-
  WALK: package text: the reader: con, kind max. (Made by gencon.py.)
-/
import Derived.Test.YtggkbhafbhhhhabGreatDoorTxtN
import Derived.Deep.RegionHeld3
import Derived.Deep.RegionLaw
namespace Go.Proofs.YtggkbhafbhhhhabGreatDoor
open Go.RowKit

theorem append_nothing9 (w : World) (ty : TypeId) (base n c : Nat) (v : Value) (xs : List Value) (hown : w.ownsRow base 3 1 v n xs) :
    (Builtin.append_ #[50, 50] ty #[v, .slice none 0 c]).run Tryz.prog w = .ok v w := by
  obtain ⟨i0, hi, hz0, hz1, hz2⟩ := info_parts Tryz.infoInt5
  rcases hown.2 with ⟨rfl, rfl⟩ | ⟨g, cap, cur, rfl, _, _, hnc, _⟩
  · simp [Builtin.append_, run_underlying Tryz.underInts5, sizeOf, typeInfo, hi, Builtin.lenOf, Builtin.firstCells]
  · simp [Builtin.append_, run_underlying Tryz.underInts5, sizeOf, typeInfo, hi, Builtin.lenOf, Builtin.firstCells, hnc, storeCells]
theorem ints_one9 (l : List Int) : ∀ u ∈ l.map (Value.int .i64), u.oneCell' = true := by
  intro u hu
  obtain ⟨z, _, rfl⟩ := List.mem_map.1 hu
  rfl
theorem more_len {α : Type} {en : Int} {item : List Tok → PR α} (hE : Eats item) : ∀ (f : Nat) (acc : List α) (l : List Tok) (xs : List α) (r : List Tok), moreP en item f acc l = .ok xs r → xs.length + r.length ≤ acc.length + l.length
  | 0, acc, l, xs, r, h => by cases h
  | f + 1, acc, l, xs, r, h => by
    unfold moreP at h
    split at h
    · rename_i hb
      obtain ⟨t, q, h1, h2⟩ := PR.bind_ok h
      obtain ⟨x, q2, h3, h4⟩ := PR.bind_ok h2
      have e1 := skip_len solid_comma h1
      have e2 := hE q x q2 h3
      have e3 := more_len hE f _ q2 xs r h4
      simp at e3
      omega
    · obtain ⟨t, q, h1, h2⟩ := PR.bind_ok h
      have e1 := skip_len solid_close h1
      cases h2
      omega
theorem reads_len {α : Type} {en : Int} {item : List Tok → PR α} (hE : Eats item) {l r : List Tok} {xs : List α} (h : readP en item l = .ok xs r) : xs.length + r.length ≤ l.length := by
  unfold readP at h
  obtain ⟨t, q, h1, h2⟩ := PR.bind_ok h
  have e1 := skip_len solid_open h1
  split at h2
  · obtain ⟨t2, q2, h3, h4⟩ := PR.bind_ok h2
    have e2 := skip_len solid_close h3
    cases h4
    simp; omega
  · obtain ⟨x, q2, h3, h4⟩ := PR.bind_ok h2
    have e2 := hE q x q2 h3
    have e3 := more_len hE _ _ q2 xs r h4
    simp at e3
    omega
/-- Numbers of one's own are appended. -/
theorem wp_append_rows9 {w : World} {o : Oper} {a : Act} {K : Act → World → Prop} {Q : Exit → Act → World → Prop} (s x : Operand)
    (ho : o.op = .call { callee := .builtin .append, args := #[s, x], argTypes := #[50, 50] }) (base : Nat)
    (v : Value) (xs : List Int) (hs : a.eval s = v) (hown : w.ownsRow base 3 1 v xs.length (xs.map (Value.int .i64)))
    (u : Value) (l : List Int) (hx : a.eval x = u) (base2 : Nat) (hl : w.ownsRow base2 3 1 u l.length (l.map (Value.int .i64))) (hn : xs.length + l.length ≤ 100000) (hbase : base ≤ w.heap.size)
    (h : ∀ v' w', w'.ownsRow base 3 1 v' (xs ++ l).length ((xs ++ l).map (Value.int .i64)) → w.grownBy w' v.ownBlock → K (a.put o.dst v') w') : o.wp Tryz.prog a w K Q := by
  obtain ⟨i0, hi, hz0, hz1, hz2⟩ := info_parts Tryz.infoInt5
  rcases hl.2 with ⟨rfl, h0⟩ | ⟨g, cap, cur, rfl, _⟩
  · have hl0 : l = [] := List.length_eq_zero_iff.1 h0
    subst hl0
    have hr := append_nothing9 w o.type base xs.length 0 v _ hown
    unfold Oper.wp execOp
    simp only [ho, resolve, invoke, builtin, Sem.run_bind, Sem.run_pure, Result.andThen_ok, List.map_toArray, List.map_cons, List.map_nil, hs, hx, hr]
    exact h v w (by rw [List.append_nil]; exact hown) ⟨rfl, rfl, rfl, Nat.le_refl _, fun _ _ _ => rfl⟩
  · refine wp_append_own w s x 50 ho base 3 i0 (.int .i64 0) 1 8 Tryz.underInts5 hi hz0 hz1 hz2 rfl (by decide) v xs.length _ hs hown ⟨g, 0, none⟩ l.length cap (l.map (Value.int .i64)) hx (by simp) ?_ (ints_one9 l) (by unfold maxLen; omega) (by omega) hbase ?_
    · exact hl.cells rfl
    · intro v' w' h1 h2 h3
      exact h v' w' (by rw [List.length_append, List.map_append]; exact h1) h2
theorem row_ne_cells {w : World} {B : Nat} {e t : TypeId} {size n g cap : Nat} {xs : List Value} (h : w.ownsRow B e size (.slice (some ⟨g, 0, none⟩) n cap) n xs) {C : Nat} {cs : Array Value} (hC : w.heap[C]? = some (.cells cs t)) (ht : t ≠ e) : C ≠ g := by
  rcases h.2 with ⟨hn, _⟩ | ⟨g', cap', cur, hv, _, hh, _⟩
  · cases hn
  · simp only [Value.slice.injEq, Option.some.injEq, Addr.mk.injEq, and_true, true_and] at hv
    obtain ⟨rfl, rfl⟩ := hv
    intro e1
    rw [e1, hh] at hC
    injection hC with h1
    injection h1 with _ h2
    exact ht h2.symm
theorem ConS.append8 {N R M : Nat} {en : Int} {names : List ByteArray} {w0 : World} {C g : Nat} {w w' : World} {q : List Tok} {a : Int} {vs : List Int} {v' : Value} (h : ConS N R M en names w0 C w q (.slice (some ⟨g, 0, none⟩) 1 1) (.slice none 0 0) (.slice none 0 0) (.slice none 0 0) ⟨8, [a], [], 0, [], []⟩)
    (hown : w'.ownsRow w0.heap.size 3 1 v' ([a] ++ vs).length (([a] ++ vs).map (Value.int .i64))) (hg : w.grownBy w' (some g)) :
    ConS N R M en names w0 C (w'.setCell ⟨C, 1, none⟩ v') q v' (.slice none 0 0) (.slice none 0 0) (.slice none 0 0) ⟨8, [a] ++ vs, [], 0, [], []⟩ ∧ w'.heap[C]? = some (.cells #[.int .i64 8, .slice (some ⟨g, 0, none⟩) 1 1, .slice none 0 0, .int .i64 0, .slice none 0 0, .slice none 0 0] 54) := by
  have hgl := h.own.1.lt g rfl
  have e1 : C ≠ g := row_ne_cells h.own.1 h.con (by decide)
  have e2 : w0.heap.size ≠ g := row_ne_cells h.own.1 h.res (by decide)
  have hcon := (hg.block C (Array.getElem?_eq_some_iff.1 h.con).1 (fun e => e1 (Option.some.inj e))).trans h.con
  refine ⟨?_, hcon⟩
  exact {
    rd := (h.rd.grown hg (fun k hk => by cases hk; have := h.Rw; have := h.Nw; omega)).set (p := ⟨C, 1, none⟩) (by have := h.Rw; have := h.lt; show C ≠ R; omega) (by have := h.Nw; have := h.lt; show N ≤ C; omega) _
    fr := (h.fr.grown hg (fun k hk => by cases hk; exact Or.inr hgl.1)).setNew (p := ⟨C, 1, none⟩) (Nat.le_of_lt h.lt) _
    nm := (h.nm.old (hg.block M h.nm.lt (fun e => by have := Option.some.inj e; have := h.Mw; omega))).old (Below.heap_setCell _ _ _ _ (by have := h.Mw; have := h.lt; show M ≠ C; omega))
    res := (Below.heap_setCell _ _ _ _ (by have := h.lt; show w0.heap.size ≠ C; omega)).trans ((hg.block _ (Array.getElem?_eq_some_iff.1 h.res).1 (fun e => e2 (Option.some.inj e))).trans h.res)
    con := by rw [heap_setCell_same w' C 1 _ _ _ hcon]; rfl
    lt := h.lt
    Rw := h.Rw
    Nw := h.Nw
    Mw := h.Mw
    own := ⟨own_set hown hcon (by decide) 1 v', World.ownsRow_nil _ _ _ _, LSr.none _ _ _, World.ownsRow_nil _ _ _ _⟩ }

set_option maxHeartbeats 1600000 in
set_option maxRecDepth 100000 in
theorem con_8 (N R M : Nat) (en : Int) (names : List ByteArray) (w : World) (l : List Tok) (h : Rd N R M en w l) (hn : NmS w M names) (hne : ∀ n ∈ names, n.data.toList ≠ []) (t1 : Tok) (q1 q2 : List Tok)
    (hs1 : skipP en conW l = .ok t1 q1) (hs2 : oneOfP en conWL q1 = .ok 8 q2) :
    Calls Tryz.prog 72 #[.pointer (some ⟨R, 0, none⟩)] w (PostR (conP en names l) (GC w.heap.size) N R M en (fun k => k = R) w) := by
  have HB : Hid (Rd N R M en w l) := h
  have HN : Hid (NmS w M names) := hn
  have HNE : Hid (∀ n ∈ names, n.data.toList ≠ []) := hne
  have HS1 : Hid (skipP en conW l = .ok t1 q1) := hs1
  have HS2 : Hid (oneOfP en conWL q1 = .ok 8 q2) := hs2
  have hRw : R < w.heap.size := by obtain ⟨_, _, hR, _⟩ := h; exact (Array.getElem?_eq_some_iff.1 hR).1
  obtain ⟨P, hP⟩ : ∃ P, conP en names l = P := ⟨_, rfl⟩
  have HP : Hid (P = ((nameP en names q2).bind fun a l => (readP en (nameP en names) l).bind fun vs l => .ok ⟨8, [a] ++ vs, [], 0, [], []⟩ l).bind fun c l => (skipP en semiW l).bind fun _ l => .ok c l) := by
    show _ = _; rw [← hP]; unfold conP; rw [hs1]; show ((oneOfP en conWL q1).bind _) = _; rw [hs2]; show (bodyP en names 8 q2).bind _ = _; rw [(show bodyP en names 8 q2 = (nameP en names q2).bind fun a l => (readP en (nameP en names) l).bind fun vs l => .ok ⟨8, [a] ++ vs, [], 0, [], []⟩ l by simp [bodyP])]
  rw [hP]
  clear h hP hn hne hs1 hs2
  go_enter Tryz.func72, Tryz.ntmps72
  go_wp2_with fail
  have HR0 := HB.out.below (below_alloc w (.cells #[.int .i64 0, .slice none 0 0, .slice none 0 0, .int .i64 0, .slice none 0 0, .slice none 0 0] 54))
  have HQ0 : (w.alloc (.cells #[.int .i64 0, .slice none 0 0, .slice none 0 0, .int .i64 0, .slice none 0 0, .slice none 0 0] 54)).heap[w.heap.size]? = some (.cells #[.int .i64 0, .slice none 0 0, .slice none 0 0, .int .i64 0, .slice none 0 0, .slice none 0 0] 54) := by show (w.heap.push _)[w.heap.size]? = _; simp
  have HBA := below_alloc w (.cells #[.int .i64 0, .slice none 0 0, .slice none 0 0, .int .i64 0, .slice none 0 0, .slice none 0 0] 54)
  refine (rskip_any N R M en conW solid_con _ l HR0).mono ?_
  intro e w1 hp
  rw [HS1.out] at hp
  obtain ⟨v, rfl, rfl, hrd1, hfr1⟩ := hp
  have HR1 : Hid (Rd N R M en w1 q1) := hrd1
  have HF1 : Hid (Fr (fun k => k = R) w w1) := (Fr.below HBA).trans hfr1
  have HQ1 : Hid (w1.heap[w.heap.size]? = some (.cells #[.int .i64 0, .slice none 0 0, .slice none 0 0, .int .i64 0, .slice none 0 0, .slice none 0 0] 54)) := (hfr1.block _ (by simp) (by omega)).trans HQ0
  clear HR0 HQ0 HBA hrd1 hfr1
  go_wp2_with fail
  refine (words_cons w1).mono ?_
  rintro e w2 ⟨sv, rfl, hsv, hb2⟩
  have HSV : Hid (SArg w2 sv conWL) := hsv
  obtain ⟨as_, cs_, rfl, _, _⟩ := hsv
  have HR2 : Hid (Rd N R M en w2 q1) := HR1.out.below hb2
  have HF2 : Hid (Fr (fun k => k = R) w w2) := HF1.out.trans (Fr.below hb2)
  have HQ2 : Hid (w2.heap[w.heap.size]? = some (.cells #[.int .i64 0, .slice none 0 0, .slice none 0 0, .int .i64 0, .slice none 0 0, .slice none 0 0] 54)) := (hb2.block _ (Array.getElem?_eq_some_iff.1 HQ1.out).1).trans HQ1.out
  clear hb2
  go_wp2_with fail
  refine (oneof_any N R M en conWL _ w2 q1 HR2.out HSV.out).mono ?_
  intro e w3 hp
  rw [HS2.out] at hp
  obtain ⟨v, rfl, rfl, hrd3, hfr3⟩ := hp
  have HS : Hid (ConS N R M en names w w3.heap.size (w3.alloc (.cells #[.int .i64 8, .slice none 0 0, .slice none 0 0, .int .i64 0, .slice none 0 0, .slice none 0 0] 54)) q2 (.slice none 0 0) (.slice none 0 0) (.slice none 0 0) (.slice none 0 0) ⟨8, [], [], 0, [], []⟩) := by
    have hbq := below_alloc w3 (.cells #[.int .i64 8, .slice none 0 0, .slice none 0 0, .int .i64 0, .slice none 0 0, .slice none 0 0] 54)
    have hlt : w.heap.size < w3.heap.size := Nat.lt_of_lt_of_le (Array.getElem?_eq_some_iff.1 HQ2.out).1 hfr3.size
    have hfr := (HF2.out.trans hfr3).trans (Fr.below hbq)
    exact ⟨hrd3.below hbq, hfr, HN.out.old (hfr.block M HN.out.lt HB.out.1.2.2), (hbq.block _ hlt).trans ((hfr3.block _ (Array.getElem?_eq_some_iff.1 HQ2.out).1 (by omega)).trans HQ2.out), by show (w3.heap.push _)[w3.heap.size]? = _; simp, hlt, hRw, HB.out.1.2.1, HN.out.lt, ConR.none _ _ _⟩
  clear hrd3 hfr3 HR1 HR2 HF1 HF2 HQ1 HQ2
  skip
  go_wp2_with fail
  refine (name_any N R M en names _ q2 HS.out.rd HS.out.nm HNE.out).mono ?_
  intro e w4 hp
  cases hs : nameP en names q2 with
  | bad x er =>
    rw [hs] at hp
    obtain ⟨rfl, hfr⟩ := hp
    have hfr2 := HS.out.fr.trans hfr
    have HPB : Hid (P = .bad x er) := by show _ = _; rw [HP.out, hs]; rfl
    clear hs hfr
    go_wp2
    exact ⟨rfl, by rw [HPB.out]; exact ⟨rfl, hfr2⟩⟩
  | ok a q3 =>
    rw [hs] at hp
    obtain ⟨v4, rfl, rfl, hrd, hfr⟩ := hp
    have HT : Hid (ConS N R M en names w w3.heap.size w4 q3 (.slice none 0 0) (.slice none 0 0) (.slice none 0 0) (.slice none 0 0) ⟨8, [], [], 0, [], []⟩) := HS.out.call hfr hrd
    clear HS
    have HS := HT
    clear HT
    have HPN : Hid (P = ((readP en (nameP en names) q3).bind fun vs l => .ok ⟨8, [a] ++ vs, [], 0, [], []⟩ l).bind fun c l => (skipP en semiW l).bind fun _ l => .ok c l) := by show _ = _; rw [HP.out, hs]; rfl
    clear HP
    have HP := HPN
    clear HPN hs hrd hfr
    have r1 := blk9 HS.out.con 1 _ rfl
    have z1 := frz9 HS.out.con 1
    have hCl : w3.heap.size < w4.heap.size := (Array.getElem?_eq_some_iff.1 HS.out.con).1
    have HT : Hid (ConS N R M en names w w3.heap.size ((w4.setCell ⟨w3.heap.size, 1, none⟩ (.slice (some ⟨w4.heap.size, 0, none⟩) 1 1)).alloc (.cells #[.int .i64 a] 3)) q3 (.slice (some ⟨w4.heap.size, 0, none⟩) 1 1) (.slice none 0 0) (.slice none 0 0) (.slice none 0 0) ⟨8, [a], [], 0, [], []⟩) := HS.out.varsLit [a] (by simp)
    clear HS
    have HS := HT
    clear HT
    go_wp2_with fail
    obtain ⟨W, hW⟩ : ∃ W, ((w4.setCell ⟨w3.heap.size, 1, none⟩ (.slice (some ⟨w4.heap.size, 0, none⟩) 1 1)).alloc (.cells #[.int .i64 a] 3)) = W := ⟨_, rfl⟩
    rw [hW] at HS ⊢
    have c1 : W.cell? ⟨w3.heap.size, 1, none⟩ = some (.slice (some ⟨w4.heap.size, 0, none⟩) 1 1) := blk9 HS.out.con 1 _ rfl
    clear hW r1 z1
    have HSD : Hid (ConS N R M en names w w3.heap.size W.drew q3 (.slice (some ⟨w4.heap.size, 0, none⟩) 1 1) (.slice none 0 0) (.slice none 0 0) (.slice none 0 0) ⟨8, [a], [], 0, [], []⟩) := HS.out.below (Below.refl _ _).drew
    have hvar := variables_any N R M en names W.drew q3 HSD.out.rd HSD.out.nm HNE.out
    cases hs : readP en (nameP en names) q3 with
    | bad x er =>
      have HPB : Hid (P = .bad x er) := by show _ = _; rw [HP.out, hs]; rfl
      rw [hs] at hvar
      clear hs
      refine wp_region_held_drew (S := fun w' => w' = W.drew) (by kernel_rfl) rfl (fun hHeld => ?_)
      refine wpAnyH_take (i := 0) (v := ?v0) rfl (by kernel_rfl) (by kernel_rfl) (by kernel_rfl) (fun _ _ _ h => h) (Or.inl ⟨by rfl, ?y0⟩) rfl ?r0
      case y0 => intro wq hSw; subst hSw; go_simp; with_reducible rfl
      refine wpAnyH_take (i := 1) (v := ?v1) rfl (by kernel_rfl) (by kernel_rfl) (by kernel_rfl) (fun _ _ _ h => h) (Or.inl ⟨by rfl, ?y1⟩) rfl ?r1
      case y1 => intro wq hSw; subst hSw; go_simp; with_reducible rfl
      refine wpAnyH_take (i := 2) (v := ?v2) rfl (by kernel_rfl) (by kernel_rfl) (by kernel_rfl) (fun _ _ _ h => h) (Or.inl ⟨by rfl, ?y2⟩) rfl ?r2
      case y2 => intro wq hSw; subst hSw; go_simp; with_reducible rfl
      refine wpAnyH_ready (rs := [3]) (by kernel_rfl) (by simp) ?_
      refine AllReadyH.cons rfl (fun K hK => ?_) AllReadyH.nil
      clear hK
      go_simp
      refine hvar.mono ?_
      rintro e w5 ⟨rfl, hfr⟩
      have hfr2 := HSD.out.fr.trans hfr
      clear hvar hfr
      go_wp2
      exact ⟨rfl, by rw [HPB.out]; exact ⟨rfl, hfr2⟩⟩
    | ok vs q4 =>
      have HPN : Hid (P = (skipP en semiW q4).bind fun _ l => .ok ⟨8, [a] ++ vs, [], 0, [], []⟩ l) := by show _ = _; rw [HP.out, hs]; rfl
      rw [hs] at hvar
      have HVL : Hid (vs.length ≤ 4000) := by have h1 := reads_len (eats_name en names) hs; have h2 := HS.out.rd.len; show _ ≤ _; omega
      clear hs HP
      obtain ⟨vn, hvn⟩ : ∃ vn, [a] ++ vs = vn := ⟨_, rfl⟩
      have HVN : Hid ([a] ++ vs = vn) := hvn
      rw [hvn] at HPN
      clear hvn
      go_region_law
        (first
          | (rw [if_pos (by rfl)]; refine wp_append_rows9 _ _ rfl w.heap.size _ [a] rfl HT.own.1 _ vs rfl _ ho5 ?_ ?_ ?_; (have := HVL.out; simp; omega); exact HT.base; intro v6 w6 hown6 hg6; have HU := HT.append8 hown6 hg6; rw [HVN.out] at hown6 HU; have d1 := blk9 HU.2 1 _ rfl; have z1 := frz9 HU.2 1; obtain ⟨a6, b6, hv6⟩ := own_form hown6; subst hv6)
          | (rw [if_pos (by rfl)]; go_simp; go_at_call 100; refine hvar.mono ?_; rintro e w5 ⟨v5, rfl, ⟨ho5, _⟩, hrd5, hfr5⟩; have HT := HSD.out.call hfr5 hrd5; have c5 := blk9 HT.con 1 _ rfl; obtain ⟨a5, d5, hv5⟩ := own_form ho5; subst hv5; dsimp only))
      all_goals
        have HSN : Hid (ConS N R M en names w w3.heap.size (w6.setCell ⟨w3.heap.size, 1, none⟩ (.slice a6 vn.length b6)) q4 (.slice a6 vn.length b6) (.slice none 0 0) (.slice none 0 0) (.slice none 0 0) ⟨8, vn, [], 0, [], []⟩) := HU.1
        clear HS HT HU hg6 d1 z1 hown6 hvar c5 ho5 HSD HVL hrd5 hfr5 c1 HVN
        go_wp2_with fail
        refine (rskip_any N R M en semiW solid_semi _ q4 HSN.out.rd).mono ?_
        intro e w7 hp
        cases hs : skipP en semiW q4 with
        | bad x er =>
          rw [hs] at hp
          obtain ⟨rfl, hfr⟩ := hp
          have hfr2 := HSN.out.fr.trans hfr
          have HPB : Hid (P = .bad x er) := by show _ = _; rw [HPN.out, hs]; rfl
          clear hs hfr
          go_wp2
          exact ⟨rfl, by rw [HPB.out]; exact ⟨rfl, hfr2⟩⟩
        | ok t9 q9 =>
          rw [hs] at hp
          obtain ⟨v, rfl, rfl, hrd, hfr⟩ := hp
          have HT : Hid (ConS N R M en names w w3.heap.size w7 q9 (.slice a6 vn.length b6) (.slice none 0 0) (.slice none 0 0) (.slice none 0 0) ⟨8, vn, [], 0, [], []⟩) := HSN.out.call hfr hrd
          have HPE : Hid (P = .ok ⟨8, vn, [], 0, [], []⟩ q9) := by show _ = _; rw [HPN.out, hs]; rfl
          clear HPN HSN hs hrd hfr
          have a0 := blk9 HT.out.con 0 _ rfl
          have a1 := blk9 HT.out.con 1 _ rfl
          have a2 := blk9 HT.out.con 2 _ rfl
          have a3 := blk9 HT.out.con 3 _ rfl
          have a4 := blk9 HT.out.con 4 _ rfl
          have a5 := blk9 HT.out.con 5 _ rfl
          have b0 := blk9 HT.out.res 0 _ rfl
          have b1 := blk9 HT.out.res 1 _ rfl
          have b2 := blk9 HT.out.res 2 _ rfl
          have b3 := blk9 HT.out.res 3 _ rfl
          have b4 := blk9 HT.out.res 4 _ rfl
          have b5 := blk9 HT.out.res 5 _ rfl
          have z0 := frz9 HT.out.res 0
          have z1 := frz9 HT.out.res 1
          have z2 := frz9 HT.out.res 2
          have z3 := frz9 HT.out.res 3
          have z4 := frz9 HT.out.res 4
          have z5 := frz9 HT.out.res 5
          go_wp2
          refine bodyPost_ret (by simp [results, Tryz.results72, go_sem, *]; try rfl) rfl ?_
          rw [HPE.out]
          obtain ⟨e1, e2, e3⟩ := HT.out.endd _ _ _ _ _ _ _ rfl
          exact ⟨_, rfl, ⟨_, _, _, _, rfl, e1⟩, e2, e3⟩
end Go.Proofs.YtggkbhafbhhhhabGreatDoor
