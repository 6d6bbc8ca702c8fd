/-
  WALKS: package text: the reader: lit, lits.
-/
import Derived.Test.YtggkbhafbhhhhabGreatDoorTxtI
namespace Go.Proofs.YtggkbhafbhhhhabGreatDoor
open Go.RowKit

theorem blk9 {w : World} {b : Nat} {cs : Array Value} {t : TypeId} (h : w.heap[b]? = some (.cells cs t)) (i : Nat) (v : Value) (hv : cs[i]? = some v) : w.cell? ⟨b, i, none⟩ = some v := by
  rw [Lib.cell_of_heap h]; exact hv
theorem frz9 {w : World} {b : Nat} {cs : Array Value} {t : TypeId} (h : w.heap[b]? = some (.cells cs t)) (i : Nat) : w.frozen? ⟨b, i, none⟩ = false := by
  unfold World.frozen?
  simp only [h]
  simp

set_option maxHeartbeats 1600000 in
set_option maxRecDepth 100000 in
theorem rlit_any (N R M : Nat) (en : Int) (names : List ByteArray) (w : World) (l : List Tok) (h : Rd N R M en w l) (hn : NmS w M names) (hne : ∀ n ∈ names, n.data.toList ≠ []) :
    Calls Tryz.prog 104 #[.pointer (some ⟨R, 0, none⟩)] w (PostR (litP en names l) (fun i v _ => v = litA i) N R M en (fun k => k = R) w) := by
  have HB : Hid (Rd N R M en w l) := h
  have HN : Hid (NmS w M names) := hn
  have HNE : Hid (∀ n ∈ names, n.data.toList ≠ []) := hne
  have hRw : R < w.heap.size := by obtain ⟨_, _, hR, _⟩ := h; exact (Array.getElem?_eq_some_iff.1 hR).1
  obtain ⟨P, hP⟩ : ∃ P, litP en names l = P := ⟨_, rfl⟩
  have HP : Hid (P = (nameP en names l).bind fun v l => (oneOfP en opWL l).bind fun op l => (numberP en l).bind fun n l => .ok ⟨v, op, n⟩ l) := by show _ = _; rw [← hP]; rfl
  rw [hP]
  clear h hP hn hne
  go_enter Tryz.func104, Tryz.ntmps104
  go_wp2_with fail
  have HR0 := HB.out.below (below_alloc w (.cells #[.int .i64 0, .int .i64 0, .int .i64 0] 76))
  have HN0 := HN.out.old ((below_alloc w (.cells #[.int .i64 0, .int .i64 0, .int .i64 0] 76)).block M HN.out.lt)
  have HF0 : Fr (fun k => k = R) w (w.alloc (.cells #[.int .i64 0, .int .i64 0, .int .i64 0] 76)) := Fr.below (below_alloc _ _)
  have HQ0 : (w.alloc (.cells #[.int .i64 0, .int .i64 0, .int .i64 0] 76)).heap[w.heap.size]? = some (.cells #[.int .i64 0, .int .i64 0, .int .i64 0] 76) := by show (w.heap.push _)[w.heap.size]? = _; simp
  refine (name_any N R M en names _ l HR0 HN0 HNE.out).mono ?_
  intro e w1 hp
  cases h1 : nameP en names l with
  | bad x er =>
    rw [h1] at hp
    obtain ⟨rfl, hfr⟩ := hp
    have hfr2 := HF0.trans hfr
    have HPB : Hid (P = .bad x er) := by show _ = _; rw [HP.out, h1]; rfl
    clear h1 hfr HR0 HN0 HF0 HQ0
    go_wp2
    exact ⟨rfl, by rw [HPB.out]; exact ⟨rfl, hfr2⟩⟩
  | ok a q =>
    rw [h1] at hp
    obtain ⟨v, rfl, rfl, hrd, hfr⟩ := hp
    have HR1 : Hid (Rd N R M en w1 q) := hrd
    have HF1 : Hid (Fr (fun k => k = R) w w1) := HF0.trans hfr
    have HQ1 : Hid (w1.heap[w.heap.size]? = some (.cells #[.int .i64 0, .int .i64 0, .int .i64 0] 76)) := (hfr.block _ (by simp) (by omega)).trans HQ0
    have HP1 : Hid (P = (oneOfP en opWL q).bind fun op l => (numberP en l).bind fun n l => .ok ⟨a, op, n⟩ l) := by show _ = _; rw [HP.out, h1]; rfl
    clear h1 hrd hfr HR0 HN0 HF0 HQ0 HP
    go_wp2_with fail
    refine (words_ops w1).mono ?_
    rintro e w2 ⟨sv, rfl, hsv, hb2⟩
    have HSV : Hid (SArg w2 sv opWL) := hsv
    obtain ⟨as_, cs_, rfl, _, _⟩ := hsv
    have HR2 : Hid (Rd N R M en w2 q) := HR1.out.below hb2
    have HF2 : Hid (Fr (fun k => k = R) w w2) := HF1.out.trans (Fr.below hb2)
    have HQ2 : Hid (w2.heap[w.heap.size]? = some (.cells #[.int .i64 0, .int .i64 0, .int .i64 0] 76)) := (hb2.block _ (Array.getElem?_eq_some_iff.1 HQ1.out).1).trans HQ1.out
    clear hb2
    go_wp2_with fail
    refine (oneof_any N R M en opWL _ w2 q HR2.out HSV.out).mono ?_
    intro e w3 hp
    cases h2 : oneOfP en opWL q with
    | bad x er =>
      rw [h2] at hp
      obtain ⟨rfl, hfr⟩ := hp
      have hfr2 := HF2.out.trans hfr
      have HPB : Hid (P = .bad x er) := by show _ = _; rw [HP1.out, h2]; rfl
      clear h2 hfr
      go_wp2
      exact ⟨rfl, by rw [HPB.out]; exact ⟨rfl, hfr2⟩⟩
    | ok op q2 =>
      rw [h2] at hp
      obtain ⟨v, rfl, rfl, hrd, hfr⟩ := hp
      have HR3 : Hid (Rd N R M en w3 q2) := hrd
      have HF3 : Hid (Fr (fun k => k = R) w w3) := HF2.out.trans hfr
      have HQ3 : Hid (w3.heap[w.heap.size]? = some (.cells #[.int .i64 0, .int .i64 0, .int .i64 0] 76)) := (hfr.block _ (Array.getElem?_eq_some_iff.1 HQ2.out).1 (by omega)).trans HQ2.out
      have HP2 : Hid (P = (numberP en q2).bind fun n l => .ok ⟨a, op, n⟩ l) := by show _ = _; rw [HP1.out, h2]; rfl
      clear h2 hrd hfr HP1
      go_wp2_with fail
      refine (number_any N R M en w3 q2 HR3.out).mono ?_
      intro e w4 hp
      cases h3 : numberP en q2 with
      | bad x er =>
        rw [h3] at hp
        obtain ⟨rfl, hfr⟩ := hp
        have hfr2 := HF3.out.trans hfr
        have HPB : Hid (P = .bad x er) := by show _ = _; rw [HP2.out, h3]; rfl
        clear h3 hfr
        go_wp2
        exact ⟨rfl, by rw [HPB.out]; exact ⟨rfl, hfr2⟩⟩
      | ok n q3 =>
        rw [h3] at hp
        obtain ⟨v, rfl, ⟨rfl, _, _⟩, hrd, hfr⟩ := hp
        have HR4 : Hid (Rd N R M en w4 q3) := hrd
        have HF4 : Hid (Fr (fun k => k = R) w w4) := HF3.out.trans hfr
        have HQ4 : w4.heap[w.heap.size]? = some (.cells #[.int .i64 0, .int .i64 0, .int .i64 0] 76) := (hfr.block _ (Array.getElem?_eq_some_iff.1 HQ3.out).1 (by omega)).trans HQ3.out
        have HP3 : Hid (P = .ok ⟨a, op, n⟩ q3) := by show _ = _; rw [HP2.out, h3]; rfl
        have r0 := blk9 HQ4 0 _ rfl
        have r1 := blk9 HQ4 1 _ rfl
        have r2 := blk9 HQ4 2 _ rfl
        have z0 := frz9 HQ4 0
        have z1 := frz9 HQ4 1
        have z2 := frz9 HQ4 2
        have hN0 : N ≤ w.heap.size := HB.out.1.2.1
        have hne2 : w.heap.size ≠ R := by omega
        clear h3 hrd hfr HP2 HQ4
        go_wp2
        refine bodyPost_ret (by simp [results, Tryz.results104, go_sem, *]; try rfl) rfl ?_
        rw [HP3.out]
        refine ⟨_, rfl, rfl, ?_, ?_⟩
        · exact ((HR4.out.set (p := ⟨w.heap.size, 0, none⟩) hne2 hN0 _).set (p := ⟨w.heap.size, 1, none⟩) hne2 hN0 _).set (p := ⟨w.heap.size, 2, none⟩) hne2 hN0 _
        · exact ((HF4.out.setNew (p := ⟨w.heap.size, 0, none⟩) (Nat.le_refl _) _).setNew (p := ⟨w.heap.size, 1, none⟩) (Nat.le_refl _) _).setNew (p := ⟨w.heap.size, 2, none⟩) (Nat.le_refl _) _

theorem item_lit (B N R M : Nat) (en : Int) (names : List ByteArray) (hM : M < B) (hMR : M ≠ R) (hne : ∀ n ∈ names, n.data.toList ≠ []) : Item B N R M en 104 (litP en names) (fun i v _ => v = litA i) (fun w => NmS w M names) :=
  ⟨enters_lit9, names_stay B R M names hM hMR, fun w l h hn => rlit_any N R M en names w l h hn hne⟩

set_option maxHeartbeats 400000 in
set_option maxRecDepth 100000 in
theorem lits_read (N R M : Nat) (en : Int) (names : List ByteArray) (w : World) (l : List Tok) (h : Rd N R M en w l) (hn : NmS w M names) (hne : ∀ n ∈ names, n.data.toList ≠ []) :
    Calls Tryz.prog 103 #[.pointer (some ⟨R, 0, none⟩)] w (PostR (readP en (litP en names) l) (fun xs v w' => w'.ownsRow w.heap.size 76 3 v xs.length (xs.flatMap litC)) N R M en (fun k => k = R) w) := by
  have HB : Hid (Rd N R M en w l) := h
  have HN : Hid (NmS w M names) := hn
  have HNE : Hid (∀ n ∈ names, n.data.toList ≠ []) := hne
  have hMR : M ≠ R := h.1.2.2
  obtain ⟨P, hP⟩ : ∃ P, readP en (litP en names) l = P := ⟨_, rfl⟩
  have HP : Hid (readP en (litP en names) l = P) := hP
  rw [hP]
  clear h hP hn hne
  go_enter Tryz.func103, Tryz.ntmps103
  go_wp2_with fail
  refine (readlits_any N R M en 104 (litP en names) (fun w => NmS w M names) (eats_lit en names) w.heap.size (item_lit _ _ _ _ _ names HN.out.lt hMR HNE.out) w (Nat.le_refl _) l HB.out HN.out HB.out.len).mono ?_
  intro e w1 hp
  rw [HP.out] at hp
  cases P with
  | bad x er =>
    obtain ⟨rfl, hfr⟩ := hp
    go_wp2
    exact ⟨rfl, rfl, hfr⟩
  | ok xs r =>
    obtain ⟨v, rfl, ⟨ho, _⟩, hrd, hfr⟩ := hp
    have HO : Hid (w1.ownsRow w.heap.size 76 3 v xs.length (xs.flatMap litC)) := ho
    obtain ⟨av, cv, hv⟩ := own_form ho
    subst hv
    clear ho
    go_wp2
    go_ret
    exact ⟨_, rfl, HO.out, hrd, hfr⟩
end Go.Proofs.YtggkbhafbhhhhabGreatDoor
