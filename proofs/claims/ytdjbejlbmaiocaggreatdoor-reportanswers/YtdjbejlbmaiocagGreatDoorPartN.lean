/-
  PART 14 of what the proof leans on (TxtN).
-/
import Derived.Test.YtdjbejlbmaiocagGreatDoorPartM
/-
  WALK: package text: the reader: con, kind by kind. (Made by gencon.py.)
-/
namespace Go.Proofs.YtdjbejlbmaiocagGreatDoor
open Go.RowKit

def GC (B : Nat) (c : MCon) (v : Value) (w' : World) : Prop := ∃ vv vc vr vl, v = conV vv vc vr vl c ∧ ConR B w' vv vc vr vl c
theorem body_other (en : Int) (names : List ByteArray) (k : Int) (l : List Tok) (h : (k == 1) = false ∧ (k == 2) = false ∧ (k == 3) = false ∧ (k == 4) = false ∧ (k == 5) = false ∧ (k == 6) = false ∧ (k == 7) = false ∧ (k == 8) = false ∧ (k == 9) = false ∧ (k == 10) = false) : bodyP en names k l = .ok ⟨k, [], [], 0, [], []⟩ l := by
  obtain ⟨h1, h2, h3, h4, h5, h6, h7, h8, h9, h10⟩ := h
  have f : ∀ i : Int, (k == i) = false → ¬ k = i := fun i h => by simpa using h
  unfold bodyP
  rw [if_neg (fun h => h.elim (f _ h1) (fun h => h.elim (f _ h2) (f _ h3))), if_neg (f _ h4), if_neg (f _ h5), if_neg (f _ h6), if_neg (f _ h7), if_neg (f _ h8), if_neg (f _ h9), if_neg (f _ h10)]

set_option maxHeartbeats 1600000 in
set_option maxRecDepth 100000 in
theorem con_other (N R M : Nat) (en : Int) (names : List ByteArray) (w : World) (l : List Tok) (h : Rd N R M en w l) (hn : NmS w M names) (hne : ∀ n ∈ names, n.data.toList ≠ []) (t1 : Tok) (q1 q2 : List Tok) (k : Int) (hk : (k == 1) = false ∧ (k == 2) = false ∧ (k == 3) = false ∧ (k == 4) = false ∧ (k == 5) = false ∧ (k == 6) = false ∧ (k == 7) = false ∧ (k == 8) = false ∧ (k == 9) = false ∧ (k == 10) = false)
    (hs1 : skipP en conW l = .ok t1 q1) (hs2 : oneOfP en conWL q1 = .ok k q2) :
    Calls Tryz.prog 177 #[.pointer (some ⟨R, 0, none⟩)] w (PostR (conP en names l) (GC w.heap.size) N R M en (fun k => k = R) w) := by
  have HB : Hid (Rd N R M en w l) := h
  have HN : Hid (NmS w M names) := hn
  have HNE : Hid (∀ n ∈ names, n.data.toList ≠ []) := hne
  have HS1 : Hid (skipP en conW l = .ok t1 q1) := hs1
  have HS2 : Hid (oneOfP en conWL q1 = .ok k q2) := hs2
  have hRw : R < w.heap.size := by obtain ⟨_, _, hR, _⟩ := h; exact (Array.getElem?_eq_some_iff.1 hR).1
  obtain ⟨P, hP⟩ : ∃ P, conP en names l = P := ⟨_, rfl⟩
  have HP : Hid (P = (PR.ok ⟨k, [], [], 0, [], []⟩ q2).bind fun c l => (skipP en semiW l).bind fun _ l => .ok c l) := by
    show _ = _; rw [← hP]; unfold conP; rw [hs1]; show ((oneOfP en conWL q1).bind _) = _; rw [hs2]; show (bodyP en names k q2).bind _ = _; rw [(body_other en names k q2 hk)]
  rw [hP]
  clear h hP hn hne hs1 hs2
  obtain ⟨k1, k2, k3, k4, k5, k6, k7, k8, k9, k10⟩ := hk
  go_enter Tryz.func177, Tryz.ntmps177
  go_wp2_with fail
  have HR0 := HB.out.below (below_alloc w (.cells #[.int .i64 0, .slice none 0 0, .slice none 0 0, .int .i64 0, .slice none 0 0, .slice none 0 0] 73))
  have HQ0 : (w.alloc (.cells #[.int .i64 0, .slice none 0 0, .slice none 0 0, .int .i64 0, .slice none 0 0, .slice none 0 0] 73)).heap[w.heap.size]? = some (.cells #[.int .i64 0, .slice none 0 0, .slice none 0 0, .int .i64 0, .slice none 0 0, .slice none 0 0] 73) := by show (w.heap.push _)[w.heap.size]? = _; simp
  have HBA := below_alloc w (.cells #[.int .i64 0, .slice none 0 0, .slice none 0 0, .int .i64 0, .slice none 0 0, .slice none 0 0] 73)
  refine (rskip_any N R M en conW solid_con _ l HR0).mono ?_
  intro e w1 hp
  rw [HS1.out] at hp
  obtain ⟨v, rfl, rfl, hrd1, hfr1⟩ := hp
  have HR1 : Hid (Rd N R M en w1 q1) := hrd1
  have HF1 : Hid (Fr (fun k => k = R) w w1) := (Fr.below HBA).trans hfr1
  have HQ1 : Hid (w1.heap[w.heap.size]? = some (.cells #[.int .i64 0, .slice none 0 0, .slice none 0 0, .int .i64 0, .slice none 0 0, .slice none 0 0] 73)) := (hfr1.block _ (by simp) (by omega)).trans HQ0
  clear HR0 HQ0 HBA hrd1 hfr1
  go_wp2_with fail
  refine (words_cons w1).mono ?_
  rintro e w2 ⟨sv, rfl, hsv, hb2⟩
  have HSV : Hid (SArg w2 sv conWL) := hsv
  obtain ⟨as_, cs_, rfl, _, _⟩ := hsv
  have HR2 : Hid (Rd N R M en w2 q1) := HR1.out.below hb2
  have HF2 : Hid (Fr (fun k => k = R) w w2) := HF1.out.trans (Fr.below hb2)
  have HQ2 : Hid (w2.heap[w.heap.size]? = some (.cells #[.int .i64 0, .slice none 0 0, .slice none 0 0, .int .i64 0, .slice none 0 0, .slice none 0 0] 73)) := (hb2.block _ (Array.getElem?_eq_some_iff.1 HQ1.out).1).trans HQ1.out
  clear hb2
  go_wp2_with fail
  refine (oneof_any N R M en conWL _ w2 q1 HR2.out HSV.out).mono ?_
  intro e w3 hp
  rw [HS2.out] at hp
  obtain ⟨v, rfl, rfl, hrd3, hfr3⟩ := hp
  have HS : Hid (ConS N R M en names w w3.heap.size (w3.alloc (.cells #[.int .i64 k, .slice none 0 0, .slice none 0 0, .int .i64 0, .slice none 0 0, .slice none 0 0] 73)) q2 (.slice none 0 0) (.slice none 0 0) (.slice none 0 0) (.slice none 0 0) ⟨k, [], [], 0, [], []⟩) := by
    have hbq := below_alloc w3 (.cells #[.int .i64 k, .slice none 0 0, .slice none 0 0, .int .i64 0, .slice none 0 0, .slice none 0 0] 73)
    have hlt : w.heap.size < w3.heap.size := Nat.lt_of_lt_of_le (Array.getElem?_eq_some_iff.1 HQ2.out).1 hfr3.size
    have hfr := (HF2.out.trans hfr3).trans (Fr.below hbq)
    exact ⟨hrd3.below hbq, hfr, HN.out.old (hfr.block M HN.out.lt HB.out.1.2.2), (hbq.block _ hlt).trans ((hfr3.block _ (Array.getElem?_eq_some_iff.1 HQ2.out).1 (by omega)).trans HQ2.out), by show (w3.heap.push _)[w3.heap.size]? = _; simp, hlt, hRw, HB.out.1.2.1, HN.out.lt, ConR.none _ _ _⟩
  clear hrd3 hfr3 HR1 HR2 HF1 HF2 HQ1 HQ2
  skip
  have HPN : Hid (P = (skipP en semiW q2).bind fun _ l => .ok ⟨k, [], [], 0, [], []⟩ l) := by show _ = _; rw [HP.out]; rfl
  clear HP
  have HP := HPN
  clear HPN
  go_wp2_with fail
  refine (rskip_any N R M en semiW solid_semi _ q2 HS.out.rd).mono ?_
  intro e w4 hp
  cases hs : skipP en semiW q2 with
  | bad x er =>
    rw [hs] at hp
    obtain ⟨rfl, hfr⟩ := hp
    have hfr2 := HS.out.fr.trans hfr
    have HPB : Hid (P = .bad x er) := by show _ = _; rw [HP.out, hs]; rfl
    clear hs hfr
    go_wp2
    exact ⟨rfl, by rw [HPB.out]; exact ⟨rfl, hfr2⟩⟩
  | ok t9 q9 =>
    rw [hs] at hp
    obtain ⟨v, rfl, rfl, hrd, hfr⟩ := hp
    have HT : Hid (ConS N R M en names w w3.heap.size w4 q9 (.slice none 0 0) (.slice none 0 0) (.slice none 0 0) (.slice none 0 0) ⟨k, [], [], 0, [], []⟩) := HS.out.call hfr hrd
    have HPN : Hid (P = .ok ⟨k, [], [], 0, [], []⟩ q9) := by show _ = _; rw [HP.out, hs]; rfl
    clear HP HS hs hrd hfr
    have a0 := blk9 HT.out.con 0 _ rfl
    have a1 := blk9 HT.out.con 1 _ rfl
    have a2 := blk9 HT.out.con 2 _ rfl
    have a3 := blk9 HT.out.con 3 _ rfl
    have a4 := blk9 HT.out.con 4 _ rfl
    have a5 := blk9 HT.out.con 5 _ rfl
    have b0 := blk9 HT.out.res 0 _ rfl
    have b1 := blk9 HT.out.res 1 _ rfl
    have b2 := blk9 HT.out.res 2 _ rfl
    have b3 := blk9 HT.out.res 3 _ rfl
    have b4 := blk9 HT.out.res 4 _ rfl
    have b5 := blk9 HT.out.res 5 _ rfl
    have z0 := frz9 HT.out.res 0
    have z1 := frz9 HT.out.res 1
    have z2 := frz9 HT.out.res 2
    have z3 := frz9 HT.out.res 3
    have z4 := frz9 HT.out.res 4
    have z5 := frz9 HT.out.res 5
    go_wp2
    refine bodyPost_ret (by simp [results, Tryz.results177, go_sem, *]; try rfl) rfl ?_
    rw [HPN.out]
    obtain ⟨e1, e2, e3⟩ := HT.out.endd _ _ _ _ _ _ _ rfl
    exact ⟨_, rfl, ⟨_, _, _, _, rfl, e1⟩, e2, e3⟩

set_option maxHeartbeats 1600000 in
set_option maxRecDepth 100000 in
theorem con_4 (N R M : Nat) (en : Int) (names : List ByteArray) (w : World) (l : List Tok) (h : Rd N R M en w l) (hn : NmS w M names) (hne : ∀ n ∈ names, n.data.toList ≠ []) (t1 : Tok) (q1 q2 : List Tok)
    (hs1 : skipP en conW l = .ok t1 q1) (hs2 : oneOfP en conWL q1 = .ok 4 q2) :
    Calls Tryz.prog 177 #[.pointer (some ⟨R, 0, none⟩)] w (PostR (conP en names l) (GC w.heap.size) N R M en (fun k => k = R) w) := by
  have HB : Hid (Rd N R M en w l) := h
  have HN : Hid (NmS w M names) := hn
  have HNE : Hid (∀ n ∈ names, n.data.toList ≠ []) := hne
  have HS1 : Hid (skipP en conW l = .ok t1 q1) := hs1
  have HS2 : Hid (oneOfP en conWL q1 = .ok 4 q2) := hs2
  have hRw : R < w.heap.size := by obtain ⟨_, _, hR, _⟩ := h; exact (Array.getElem?_eq_some_iff.1 hR).1
  obtain ⟨P, hP⟩ : ∃ P, conP en names l = P := ⟨_, rfl⟩
  have HP : Hid (P = ((readP en (nameP en names) q2).bind fun vs l => .ok ⟨4, vs, [], 0, [], []⟩ l).bind fun c l => (skipP en semiW l).bind fun _ l => .ok c l) := by
    show _ = _; rw [← hP]; unfold conP; rw [hs1]; show ((oneOfP en conWL q1).bind _) = _; rw [hs2]; show (bodyP en names 4 q2).bind _ = _; rw [(show bodyP en names 4 q2 = (readP en (nameP en names) q2).bind fun vs l => .ok ⟨4, vs, [], 0, [], []⟩ l by simp [bodyP])]
  rw [hP]
  clear h hP hn hne hs1 hs2
  go_enter Tryz.func177, Tryz.ntmps177
  go_wp2_with fail
  have HR0 := HB.out.below (below_alloc w (.cells #[.int .i64 0, .slice none 0 0, .slice none 0 0, .int .i64 0, .slice none 0 0, .slice none 0 0] 73))
  have HQ0 : (w.alloc (.cells #[.int .i64 0, .slice none 0 0, .slice none 0 0, .int .i64 0, .slice none 0 0, .slice none 0 0] 73)).heap[w.heap.size]? = some (.cells #[.int .i64 0, .slice none 0 0, .slice none 0 0, .int .i64 0, .slice none 0 0, .slice none 0 0] 73) := by show (w.heap.push _)[w.heap.size]? = _; simp
  have HBA := below_alloc w (.cells #[.int .i64 0, .slice none 0 0, .slice none 0 0, .int .i64 0, .slice none 0 0, .slice none 0 0] 73)
  refine (rskip_any N R M en conW solid_con _ l HR0).mono ?_
  intro e w1 hp
  rw [HS1.out] at hp
  obtain ⟨v, rfl, rfl, hrd1, hfr1⟩ := hp
  have HR1 : Hid (Rd N R M en w1 q1) := hrd1
  have HF1 : Hid (Fr (fun k => k = R) w w1) := (Fr.below HBA).trans hfr1
  have HQ1 : Hid (w1.heap[w.heap.size]? = some (.cells #[.int .i64 0, .slice none 0 0, .slice none 0 0, .int .i64 0, .slice none 0 0, .slice none 0 0] 73)) := (hfr1.block _ (by simp) (by omega)).trans HQ0
  clear HR0 HQ0 HBA hrd1 hfr1
  go_wp2_with fail
  refine (words_cons w1).mono ?_
  rintro e w2 ⟨sv, rfl, hsv, hb2⟩
  have HSV : Hid (SArg w2 sv conWL) := hsv
  obtain ⟨as_, cs_, rfl, _, _⟩ := hsv
  have HR2 : Hid (Rd N R M en w2 q1) := HR1.out.below hb2
  have HF2 : Hid (Fr (fun k => k = R) w w2) := HF1.out.trans (Fr.below hb2)
  have HQ2 : Hid (w2.heap[w.heap.size]? = some (.cells #[.int .i64 0, .slice none 0 0, .slice none 0 0, .int .i64 0, .slice none 0 0, .slice none 0 0] 73)) := (hb2.block _ (Array.getElem?_eq_some_iff.1 HQ1.out).1).trans HQ1.out
  clear hb2
  go_wp2_with fail
  refine (oneof_any N R M en conWL _ w2 q1 HR2.out HSV.out).mono ?_
  intro e w3 hp
  rw [HS2.out] at hp
  obtain ⟨v, rfl, rfl, hrd3, hfr3⟩ := hp
  have HS : Hid (ConS N R M en names w w3.heap.size (w3.alloc (.cells #[.int .i64 4, .slice none 0 0, .slice none 0 0, .int .i64 0, .slice none 0 0, .slice none 0 0] 73)) q2 (.slice none 0 0) (.slice none 0 0) (.slice none 0 0) (.slice none 0 0) ⟨4, [], [], 0, [], []⟩) := by
    have hbq := below_alloc w3 (.cells #[.int .i64 4, .slice none 0 0, .slice none 0 0, .int .i64 0, .slice none 0 0, .slice none 0 0] 73)
    have hlt : w.heap.size < w3.heap.size := Nat.lt_of_lt_of_le (Array.getElem?_eq_some_iff.1 HQ2.out).1 hfr3.size
    have hfr := (HF2.out.trans hfr3).trans (Fr.below hbq)
    exact ⟨hrd3.below hbq, hfr, HN.out.old (hfr.block M HN.out.lt HB.out.1.2.2), (hbq.block _ hlt).trans ((hfr3.block _ (Array.getElem?_eq_some_iff.1 HQ2.out).1 (by omega)).trans HQ2.out), by show (w3.heap.push _)[w3.heap.size]? = _; simp, hlt, hRw, HB.out.1.2.1, HN.out.lt, ConR.none _ _ _⟩
  clear hrd3 hfr3 HR1 HR2 HF1 HF2 HQ1 HQ2
  skip
  go_wp2_with fail
  refine (variables_any N R M en names _ q2 HS.out.rd HS.out.nm HNE.out).mono ?_
  intro e w4 hp
  cases hs : readP en (nameP en names) q2 with
  | bad x er =>
    rw [hs] at hp
    obtain ⟨rfl, hfr⟩ := hp
    have hfr2 := HS.out.fr.trans hfr
    have HPB : Hid (P = .bad x er) := by show _ = _; rw [HP.out, hs]; rfl
    clear hs hfr
    go_wp2
    exact ⟨rfl, by rw [HPB.out]; exact ⟨rfl, hfr2⟩⟩
  | ok vs q3 =>
    rw [hs] at hp
    obtain ⟨v4, rfl, ⟨ho, _⟩, hrd, hfr⟩ := hp
    have HO : Hid (w4.ownsRow w.heap.size 3 1 v4 vs.length (vs.map (Value.int .i64))) := own_mono9 ho HS.out.base
    obtain ⟨a4, c4, hv⟩ := own_form ho
    subst hv
    clear ho
    have HT : Hid (ConS N R M en names w w3.heap.size w4 q3 (.slice none 0 0) (.slice none 0 0) (.slice none 0 0) (.slice none 0 0) ⟨4, [], [], 0, [], []⟩) := HS.out.call hfr hrd
    clear HS
    have HS := HT
    clear HT
    have HPN : Hid (P = (PR.ok ⟨4, vs, [], 0, [], []⟩ q3).bind fun c l => (skipP en semiW l).bind fun _ l => .ok c l) := by show _ = _; rw [HP.out, hs]; rfl
    clear HP
    have HP := HPN
    clear HPN hs hrd hfr
    have r1 := blk9 HS.out.con 1 _ rfl
    have z1 := frz9 HS.out.con 1
    have HT : Hid (ConS N R M en names w w3.heap.size (w4.setCell ⟨w3.heap.size, 1, none⟩ (.slice a4 vs.length c4)) q3 (.slice a4 vs.length c4) (.slice none 0 0) (.slice none 0 0) (.slice none 0 0) ⟨4, vs, [], 0, [], []⟩) := HS.out.vars HO.out
    clear HO
    clear HS
    have HS := HT
    clear HT
    have HPN : Hid (P = (skipP en semiW q3).bind fun _ l => .ok ⟨4, vs, [], 0, [], []⟩ l) := by show _ = _; rw [HP.out]; rfl
    clear HP
    have HP := HPN
    clear HPN
    go_wp2_with fail
    refine (rskip_any N R M en semiW solid_semi _ q3 HS.out.rd).mono ?_
    intro e w5 hp
    cases hs : skipP en semiW q3 with
    | bad x er =>
      rw [hs] at hp
      obtain ⟨rfl, hfr⟩ := hp
      have hfr2 := HS.out.fr.trans hfr
      have HPB : Hid (P = .bad x er) := by show _ = _; rw [HP.out, hs]; rfl
      clear hs hfr
      go_wp2
      exact ⟨rfl, by rw [HPB.out]; exact ⟨rfl, hfr2⟩⟩
    | ok t9 q9 =>
      rw [hs] at hp
      obtain ⟨v, rfl, rfl, hrd, hfr⟩ := hp
      have HT : Hid (ConS N R M en names w w3.heap.size w5 q9 (.slice a4 vs.length c4) (.slice none 0 0) (.slice none 0 0) (.slice none 0 0) ⟨4, vs, [], 0, [], []⟩) := HS.out.call hfr hrd
      have HPN : Hid (P = .ok ⟨4, vs, [], 0, [], []⟩ q9) := by show _ = _; rw [HP.out, hs]; rfl
      clear HP HS hs hrd hfr
      have a0 := blk9 HT.out.con 0 _ rfl
      have a1 := blk9 HT.out.con 1 _ rfl
      have a2 := blk9 HT.out.con 2 _ rfl
      have a3 := blk9 HT.out.con 3 _ rfl
      have a4 := blk9 HT.out.con 4 _ rfl
      have a5 := blk9 HT.out.con 5 _ rfl
      have b0 := blk9 HT.out.res 0 _ rfl
      have b1 := blk9 HT.out.res 1 _ rfl
      have b2 := blk9 HT.out.res 2 _ rfl
      have b3 := blk9 HT.out.res 3 _ rfl
      have b4 := blk9 HT.out.res 4 _ rfl
      have b5 := blk9 HT.out.res 5 _ rfl
      have z0 := frz9 HT.out.res 0
      have z1 := frz9 HT.out.res 1
      have z2 := frz9 HT.out.res 2
      have z3 := frz9 HT.out.res 3
      have z4 := frz9 HT.out.res 4
      have z5 := frz9 HT.out.res 5
      go_wp2
      refine bodyPost_ret (by simp [results, Tryz.results177, go_sem, *]; try rfl) rfl ?_
      rw [HPN.out]
      obtain ⟨e1, e2, e3⟩ := HT.out.endd _ _ _ _ _ _ _ rfl
      exact ⟨_, rfl, ⟨_, _, _, _, rfl, e1⟩, e2, e3⟩

set_option maxHeartbeats 1600000 in
set_option maxRecDepth 100000 in
theorem con_1 (N R M : Nat) (en : Int) (names : List ByteArray) (w : World) (l : List Tok) (h : Rd N R M en w l) (hn : NmS w M names) (hne : ∀ n ∈ names, n.data.toList ≠ []) (t1 : Tok) (q1 q2 : List Tok)
    (hs1 : skipP en conW l = .ok t1 q1) (hs2 : oneOfP en conWL q1 = .ok 1 q2) :
    Calls Tryz.prog 177 #[.pointer (some ⟨R, 0, none⟩)] w (PostR (conP en names l) (GC w.heap.size) N R M en (fun k => k = R) w) := by
  have HB : Hid (Rd N R M en w l) := h
  have HN : Hid (NmS w M names) := hn
  have HNE : Hid (∀ n ∈ names, n.data.toList ≠ []) := hne
  have HS1 : Hid (skipP en conW l = .ok t1 q1) := hs1
  have HS2 : Hid (oneOfP en conWL q1 = .ok 1 q2) := hs2
  have hRw : R < w.heap.size := by obtain ⟨_, _, hR, _⟩ := h; exact (Array.getElem?_eq_some_iff.1 hR).1
  obtain ⟨P, hP⟩ : ∃ P, conP en names l = P := ⟨_, rfl⟩
  have HP : Hid (P = ((readP en (numberP en) q2).bind fun cs l => (readP en (nameP en names) l).bind fun vs l => (numberP en l).bind fun n l => .ok ⟨1, vs, cs, n, [], []⟩ l).bind fun c l => (skipP en semiW l).bind fun _ l => .ok c l) := by
    show _ = _; rw [← hP]; unfold conP; rw [hs1]; show ((oneOfP en conWL q1).bind _) = _; rw [hs2]; show (bodyP en names 1 q2).bind _ = _; rw [(show bodyP en names 1 q2 = (readP en (numberP en) q2).bind fun cs l => (readP en (nameP en names) l).bind fun vs l => (numberP en l).bind fun n l => .ok ⟨1, vs, cs, n, [], []⟩ l by simp [bodyP])]
  rw [hP]
  clear h hP hn hne hs1 hs2
  go_enter Tryz.func177, Tryz.ntmps177
  go_wp2_with fail
  have HR0 := HB.out.below (below_alloc w (.cells #[.int .i64 0, .slice none 0 0, .slice none 0 0, .int .i64 0, .slice none 0 0, .slice none 0 0] 73))
  have HQ0 : (w.alloc (.cells #[.int .i64 0, .slice none 0 0, .slice none 0 0, .int .i64 0, .slice none 0 0, .slice none 0 0] 73)).heap[w.heap.size]? = some (.cells #[.int .i64 0, .slice none 0 0, .slice none 0 0, .int .i64 0, .slice none 0 0, .slice none 0 0] 73) := by show (w.heap.push _)[w.heap.size]? = _; simp
  have HBA := below_alloc w (.cells #[.int .i64 0, .slice none 0 0, .slice none 0 0, .int .i64 0, .slice none 0 0, .slice none 0 0] 73)
  refine (rskip_any N R M en conW solid_con _ l HR0).mono ?_
  intro e w1 hp
  rw [HS1.out] at hp
  obtain ⟨v, rfl, rfl, hrd1, hfr1⟩ := hp
  have HR1 : Hid (Rd N R M en w1 q1) := hrd1
  have HF1 : Hid (Fr (fun k => k = R) w w1) := (Fr.below HBA).trans hfr1
  have HQ1 : Hid (w1.heap[w.heap.size]? = some (.cells #[.int .i64 0, .slice none 0 0, .slice none 0 0, .int .i64 0, .slice none 0 0, .slice none 0 0] 73)) := (hfr1.block _ (by simp) (by omega)).trans HQ0
  clear HR0 HQ0 HBA hrd1 hfr1
  go_wp2_with fail
  refine (words_cons w1).mono ?_
  rintro e w2 ⟨sv, rfl, hsv, hb2⟩
  have HSV : Hid (SArg w2 sv conWL) := hsv
  obtain ⟨as_, cs_, rfl, _, _⟩ := hsv
  have HR2 : Hid (Rd N R M en w2 q1) := HR1.out.below hb2
  have HF2 : Hid (Fr (fun k => k = R) w w2) := HF1.out.trans (Fr.below hb2)
  have HQ2 : Hid (w2.heap[w.heap.size]? = some (.cells #[.int .i64 0, .slice none 0 0, .slice none 0 0, .int .i64 0, .slice none 0 0, .slice none 0 0] 73)) := (hb2.block _ (Array.getElem?_eq_some_iff.1 HQ1.out).1).trans HQ1.out
  clear hb2
  go_wp2_with fail
  refine (oneof_any N R M en conWL _ w2 q1 HR2.out HSV.out).mono ?_
  intro e w3 hp
  rw [HS2.out] at hp
  obtain ⟨v, rfl, rfl, hrd3, hfr3⟩ := hp
  have HS : Hid (ConS N R M en names w w3.heap.size (w3.alloc (.cells #[.int .i64 1, .slice none 0 0, .slice none 0 0, .int .i64 0, .slice none 0 0, .slice none 0 0] 73)) q2 (.slice none 0 0) (.slice none 0 0) (.slice none 0 0) (.slice none 0 0) ⟨1, [], [], 0, [], []⟩) := by
    have hbq := below_alloc w3 (.cells #[.int .i64 1, .slice none 0 0, .slice none 0 0, .int .i64 0, .slice none 0 0, .slice none 0 0] 73)
    have hlt : w.heap.size < w3.heap.size := Nat.lt_of_lt_of_le (Array.getElem?_eq_some_iff.1 HQ2.out).1 hfr3.size
    have hfr := (HF2.out.trans hfr3).trans (Fr.below hbq)
    exact ⟨hrd3.below hbq, hfr, HN.out.old (hfr.block M HN.out.lt HB.out.1.2.2), (hbq.block _ hlt).trans ((hfr3.block _ (Array.getElem?_eq_some_iff.1 HQ2.out).1 (by omega)).trans HQ2.out), by show (w3.heap.push _)[w3.heap.size]? = _; simp, hlt, hRw, HB.out.1.2.1, HN.out.lt, ConR.none _ _ _⟩
  clear hrd3 hfr3 HR1 HR2 HF1 HF2 HQ1 HQ2
  skip
  go_wp2_with fail
  refine (numbers_any N R M en _ q2 HS.out.rd).mono ?_
  intro e w4 hp
  cases hs : readP en (numberP en) q2 with
  | bad x er =>
    rw [hs] at hp
    obtain ⟨rfl, hfr⟩ := hp
    have hfr2 := HS.out.fr.trans hfr
    have HPB : Hid (P = .bad x er) := by show _ = _; rw [HP.out, hs]; rfl
    clear hs hfr
    go_wp2
    exact ⟨rfl, by rw [HPB.out]; exact ⟨rfl, hfr2⟩⟩
  | ok cs q3 =>
    rw [hs] at hp
    obtain ⟨v4, rfl, ho, hrd, hfr⟩ := hp
    have HO : Hid (w4.ownsRow w.heap.size 3 1 v4 cs.length (cs.map (Value.int .i64))) := own_mono9 ho HS.out.base
    obtain ⟨a4, c4, hv⟩ := own_form ho
    subst hv
    clear ho
    have HT : Hid (ConS N R M en names w w3.heap.size w4 q3 (.slice none 0 0) (.slice none 0 0) (.slice none 0 0) (.slice none 0 0) ⟨1, [], [], 0, [], []⟩) := HS.out.call hfr hrd
    clear HS
    have HS := HT
    clear HT
    have HPN : Hid (P = ((readP en (nameP en names) q3).bind fun vs l => (numberP en l).bind fun n l => .ok ⟨1, vs, cs, n, [], []⟩ l).bind fun c l => (skipP en semiW l).bind fun _ l => .ok c l) := by show _ = _; rw [HP.out, hs]; rfl
    clear HP
    have HP := HPN
    clear HPN hs hrd hfr
    have r2 := blk9 HS.out.con 2 _ rfl
    have z2 := frz9 HS.out.con 2
    have HT : Hid (ConS N R M en names w w3.heap.size (w4.setCell ⟨w3.heap.size, 2, none⟩ (.slice a4 cs.length c4)) q3 (.slice none 0 0) (.slice a4 cs.length c4) (.slice none 0 0) (.slice none 0 0) ⟨1, [], cs, 0, [], []⟩) := HS.out.consts HO.out
    clear HO
    clear HS
    have HS := HT
    clear HT
    go_wp2_with fail
    refine (variables_any N R M en names _ q3 HS.out.rd HS.out.nm HNE.out).mono ?_
    intro e w5 hp
    cases hs : readP en (nameP en names) q3 with
    | bad x er =>
      rw [hs] at hp
      obtain ⟨rfl, hfr⟩ := hp
      have hfr2 := HS.out.fr.trans hfr
      have HPB : Hid (P = .bad x er) := by show _ = _; rw [HP.out, hs]; rfl
      clear hs hfr
      go_wp2
      exact ⟨rfl, by rw [HPB.out]; exact ⟨rfl, hfr2⟩⟩
    | ok vs q4 =>
      rw [hs] at hp
      obtain ⟨v5, rfl, ⟨ho, _⟩, hrd, hfr⟩ := hp
      have HO : Hid (w5.ownsRow w.heap.size 3 1 v5 vs.length (vs.map (Value.int .i64))) := own_mono9 ho HS.out.base
      obtain ⟨a5, c5, hv⟩ := own_form ho
      subst hv
      clear ho
      have HT : Hid (ConS N R M en names w w3.heap.size w5 q4 (.slice none 0 0) (.slice a4 cs.length c4) (.slice none 0 0) (.slice none 0 0) ⟨1, [], cs, 0, [], []⟩) := HS.out.call hfr hrd
      clear HS
      have HS := HT
      clear HT
      have HPN : Hid (P = ((numberP en q4).bind fun n l => .ok ⟨1, vs, cs, n, [], []⟩ l).bind fun c l => (skipP en semiW l).bind fun _ l => .ok c l) := by show _ = _; rw [HP.out, hs]; rfl
      clear HP
      have HP := HPN
      clear HPN hs hrd hfr
      have r1 := blk9 HS.out.con 1 _ rfl
      have z1 := frz9 HS.out.con 1
      have HT : Hid (ConS N R M en names w w3.heap.size (w5.setCell ⟨w3.heap.size, 1, none⟩ (.slice a5 vs.length c5)) q4 (.slice a5 vs.length c5) (.slice a4 cs.length c4) (.slice none 0 0) (.slice none 0 0) ⟨1, vs, cs, 0, [], []⟩) := HS.out.vars HO.out
      clear HO
      clear HS
      have HS := HT
      clear HT
      go_wp2_with fail
      refine (number_any N R M en _ q4 HS.out.rd).mono ?_
      intro e w6 hp
      cases hs : numberP en q4 with
      | bad x er =>
        rw [hs] at hp
        obtain ⟨rfl, hfr⟩ := hp
        have hfr2 := HS.out.fr.trans hfr
        have HPB : Hid (P = .bad x er) := by show _ = _; rw [HP.out, hs]; rfl
        clear hs hfr
        go_wp2
        exact ⟨rfl, by rw [HPB.out]; exact ⟨rfl, hfr2⟩⟩
      | ok n q5 =>
        rw [hs] at hp
        obtain ⟨v6, rfl, ⟨rfl, _, _⟩, hrd, hfr⟩ := hp
        have HT : Hid (ConS N R M en names w w3.heap.size w6 q5 (.slice a5 vs.length c5) (.slice a4 cs.length c4) (.slice none 0 0) (.slice none 0 0) ⟨1, vs, cs, 0, [], []⟩) := HS.out.call hfr hrd
        clear HS
        have HS := HT
        clear HT
        have HPN : Hid (P = (PR.ok ⟨1, vs, cs, n, [], []⟩ q5).bind fun c l => (skipP en semiW l).bind fun _ l => .ok c l) := by show _ = _; rw [HP.out, hs]; rfl
        clear HP
        have HP := HPN
        clear HPN hs hrd hfr
        have r3 := blk9 HS.out.con 3 _ rfl
        have z3 := frz9 HS.out.con 3
        have HT : Hid (ConS N R M en names w w3.heap.size (w6.setCell ⟨w3.heap.size, 3, none⟩ (.int .i64 n)) q5 (.slice a5 vs.length c5) (.slice a4 cs.length c4) (.slice none 0 0) (.slice none 0 0) ⟨1, vs, cs, n, [], []⟩) := HS.out.n n
        clear HS
        have HS := HT
        clear HT
        have HPN : Hid (P = (skipP en semiW q5).bind fun _ l => .ok ⟨1, vs, cs, n, [], []⟩ l) := by show _ = _; rw [HP.out]; rfl
        clear HP
        have HP := HPN
        clear HPN
        go_wp2_with fail
        refine (rskip_any N R M en semiW solid_semi _ q5 HS.out.rd).mono ?_
        intro e w7 hp
        cases hs : skipP en semiW q5 with
        | bad x er =>
          rw [hs] at hp
          obtain ⟨rfl, hfr⟩ := hp
          have hfr2 := HS.out.fr.trans hfr
          have HPB : Hid (P = .bad x er) := by show _ = _; rw [HP.out, hs]; rfl
          clear hs hfr
          go_wp2
          exact ⟨rfl, by rw [HPB.out]; exact ⟨rfl, hfr2⟩⟩
        | ok t9 q9 =>
          rw [hs] at hp
          obtain ⟨v, rfl, rfl, hrd, hfr⟩ := hp
          have HT : Hid (ConS N R M en names w w3.heap.size w7 q9 (.slice a5 vs.length c5) (.slice a4 cs.length c4) (.slice none 0 0) (.slice none 0 0) ⟨1, vs, cs, n, [], []⟩) := HS.out.call hfr hrd
          have HPN : Hid (P = .ok ⟨1, vs, cs, n, [], []⟩ q9) := by show _ = _; rw [HP.out, hs]; rfl
          clear HP HS hs hrd hfr
          have a0 := blk9 HT.out.con 0 _ rfl
          have a1 := blk9 HT.out.con 1 _ rfl
          have a2 := blk9 HT.out.con 2 _ rfl
          have a3 := blk9 HT.out.con 3 _ rfl
          have a4 := blk9 HT.out.con 4 _ rfl
          have a5 := blk9 HT.out.con 5 _ rfl
          have b0 := blk9 HT.out.res 0 _ rfl
          have b1 := blk9 HT.out.res 1 _ rfl
          have b2 := blk9 HT.out.res 2 _ rfl
          have b3 := blk9 HT.out.res 3 _ rfl
          have b4 := blk9 HT.out.res 4 _ rfl
          have b5 := blk9 HT.out.res 5 _ rfl
          have z0 := frz9 HT.out.res 0
          have z1 := frz9 HT.out.res 1
          have z2 := frz9 HT.out.res 2
          have z3 := frz9 HT.out.res 3
          have z4 := frz9 HT.out.res 4
          have z5 := frz9 HT.out.res 5
          go_wp2
          refine bodyPost_ret (by simp [results, Tryz.results177, go_sem, *]; try rfl) rfl ?_
          rw [HPN.out]
          obtain ⟨e1, e2, e3⟩ := HT.out.endd _ _ _ _ _ _ _ rfl
          exact ⟨_, rfl, ⟨_, _, _, _, rfl, e1⟩, e2, e3⟩

set_option maxHeartbeats 1600000 in
set_option maxRecDepth 100000 in
theorem con_2 (N R M : Nat) (en : Int) (names : List ByteArray) (w : World) (l : List Tok) (h : Rd N R M en w l) (hn : NmS w M names) (hne : ∀ n ∈ names, n.data.toList ≠ []) (t1 : Tok) (q1 q2 : List Tok)
    (hs1 : skipP en conW l = .ok t1 q1) (hs2 : oneOfP en conWL q1 = .ok 2 q2) :
    Calls Tryz.prog 177 #[.pointer (some ⟨R, 0, none⟩)] w (PostR (conP en names l) (GC w.heap.size) N R M en (fun k => k = R) w) := by
  have HB : Hid (Rd N R M en w l) := h
  have HN : Hid (NmS w M names) := hn
  have HNE : Hid (∀ n ∈ names, n.data.toList ≠ []) := hne
  have HS1 : Hid (skipP en conW l = .ok t1 q1) := hs1
  have HS2 : Hid (oneOfP en conWL q1 = .ok 2 q2) := hs2
  have hRw : R < w.heap.size := by obtain ⟨_, _, hR, _⟩ := h; exact (Array.getElem?_eq_some_iff.1 hR).1
  obtain ⟨P, hP⟩ : ∃ P, conP en names l = P := ⟨_, rfl⟩
  have HP : Hid (P = ((readP en (numberP en) q2).bind fun cs l => (readP en (nameP en names) l).bind fun vs l => (numberP en l).bind fun n l => .ok ⟨2, vs, cs, n, [], []⟩ l).bind fun c l => (skipP en semiW l).bind fun _ l => .ok c l) := by
    show _ = _; rw [← hP]; unfold conP; rw [hs1]; show ((oneOfP en conWL q1).bind _) = _; rw [hs2]; show (bodyP en names 2 q2).bind _ = _; rw [(show bodyP en names 2 q2 = (readP en (numberP en) q2).bind fun cs l => (readP en (nameP en names) l).bind fun vs l => (numberP en l).bind fun n l => .ok ⟨2, vs, cs, n, [], []⟩ l by simp [bodyP])]
  rw [hP]
  clear h hP hn hne hs1 hs2
  go_enter Tryz.func177, Tryz.ntmps177
  go_wp2_with fail
  have HR0 := HB.out.below (below_alloc w (.cells #[.int .i64 0, .slice none 0 0, .slice none 0 0, .int .i64 0, .slice none 0 0, .slice none 0 0] 73))
  have HQ0 : (w.alloc (.cells #[.int .i64 0, .slice none 0 0, .slice none 0 0, .int .i64 0, .slice none 0 0, .slice none 0 0] 73)).heap[w.heap.size]? = some (.cells #[.int .i64 0, .slice none 0 0, .slice none 0 0, .int .i64 0, .slice none 0 0, .slice none 0 0] 73) := by show (w.heap.push _)[w.heap.size]? = _; simp
  have HBA := below_alloc w (.cells #[.int .i64 0, .slice none 0 0, .slice none 0 0, .int .i64 0, .slice none 0 0, .slice none 0 0] 73)
  refine (rskip_any N R M en conW solid_con _ l HR0).mono ?_
  intro e w1 hp
  rw [HS1.out] at hp
  obtain ⟨v, rfl, rfl, hrd1, hfr1⟩ := hp
  have HR1 : Hid (Rd N R M en w1 q1) := hrd1
  have HF1 : Hid (Fr (fun k => k = R) w w1) := (Fr.below HBA).trans hfr1
  have HQ1 : Hid (w1.heap[w.heap.size]? = some (.cells #[.int .i64 0, .slice none 0 0, .slice none 0 0, .int .i64 0, .slice none 0 0, .slice none 0 0] 73)) := (hfr1.block _ (by simp) (by omega)).trans HQ0
  clear HR0 HQ0 HBA hrd1 hfr1
  go_wp2_with fail
  refine (words_cons w1).mono ?_
  rintro e w2 ⟨sv, rfl, hsv, hb2⟩
  have HSV : Hid (SArg w2 sv conWL) := hsv
  obtain ⟨as_, cs_, rfl, _, _⟩ := hsv
  have HR2 : Hid (Rd N R M en w2 q1) := HR1.out.below hb2
  have HF2 : Hid (Fr (fun k => k = R) w w2) := HF1.out.trans (Fr.below hb2)
  have HQ2 : Hid (w2.heap[w.heap.size]? = some (.cells #[.int .i64 0, .slice none 0 0, .slice none 0 0, .int .i64 0, .slice none 0 0, .slice none 0 0] 73)) := (hb2.block _ (Array.getElem?_eq_some_iff.1 HQ1.out).1).trans HQ1.out
  clear hb2
  go_wp2_with fail
  refine (oneof_any N R M en conWL _ w2 q1 HR2.out HSV.out).mono ?_
  intro e w3 hp
  rw [HS2.out] at hp
  obtain ⟨v, rfl, rfl, hrd3, hfr3⟩ := hp
  have HS : Hid (ConS N R M en names w w3.heap.size (w3.alloc (.cells #[.int .i64 2, .slice none 0 0, .slice none 0 0, .int .i64 0, .slice none 0 0, .slice none 0 0] 73)) q2 (.slice none 0 0) (.slice none 0 0) (.slice none 0 0) (.slice none 0 0) ⟨2, [], [], 0, [], []⟩) := by
    have hbq := below_alloc w3 (.cells #[.int .i64 2, .slice none 0 0, .slice none 0 0, .int .i64 0, .slice none 0 0, .slice none 0 0] 73)
    have hlt : w.heap.size < w3.heap.size := Nat.lt_of_lt_of_le (Array.getElem?_eq_some_iff.1 HQ2.out).1 hfr3.size
    have hfr := (HF2.out.trans hfr3).trans (Fr.below hbq)
    exact ⟨hrd3.below hbq, hfr, HN.out.old (hfr.block M HN.out.lt HB.out.1.2.2), (hbq.block _ hlt).trans ((hfr3.block _ (Array.getElem?_eq_some_iff.1 HQ2.out).1 (by omega)).trans HQ2.out), by show (w3.heap.push _)[w3.heap.size]? = _; simp, hlt, hRw, HB.out.1.2.1, HN.out.lt, ConR.none _ _ _⟩
  clear hrd3 hfr3 HR1 HR2 HF1 HF2 HQ1 HQ2
  skip
  go_wp2_with fail
  refine (numbers_any N R M en _ q2 HS.out.rd).mono ?_
  intro e w4 hp
  cases hs : readP en (numberP en) q2 with
  | bad x er =>
    rw [hs] at hp
    obtain ⟨rfl, hfr⟩ := hp
    have hfr2 := HS.out.fr.trans hfr
    have HPB : Hid (P = .bad x er) := by show _ = _; rw [HP.out, hs]; rfl
    clear hs hfr
    go_wp2
    exact ⟨rfl, by rw [HPB.out]; exact ⟨rfl, hfr2⟩⟩
  | ok cs q3 =>
    rw [hs] at hp
    obtain ⟨v4, rfl, ho, hrd, hfr⟩ := hp
    have HO : Hid (w4.ownsRow w.heap.size 3 1 v4 cs.length (cs.map (Value.int .i64))) := own_mono9 ho HS.out.base
    obtain ⟨a4, c4, hv⟩ := own_form ho
    subst hv
    clear ho
    have HT : Hid (ConS N R M en names w w3.heap.size w4 q3 (.slice none 0 0) (.slice none 0 0) (.slice none 0 0) (.slice none 0 0) ⟨2, [], [], 0, [], []⟩) := HS.out.call hfr hrd
    clear HS
    have HS := HT
    clear HT
    have HPN : Hid (P = ((readP en (nameP en names) q3).bind fun vs l => (numberP en l).bind fun n l => .ok ⟨2, vs, cs, n, [], []⟩ l).bind fun c l => (skipP en semiW l).bind fun _ l => .ok c l) := by show _ = _; rw [HP.out, hs]; rfl
    clear HP
    have HP := HPN
    clear HPN hs hrd hfr
    have r2 := blk9 HS.out.con 2 _ rfl
    have z2 := frz9 HS.out.con 2
    have HT : Hid (ConS N R M en names w w3.heap.size (w4.setCell ⟨w3.heap.size, 2, none⟩ (.slice a4 cs.length c4)) q3 (.slice none 0 0) (.slice a4 cs.length c4) (.slice none 0 0) (.slice none 0 0) ⟨2, [], cs, 0, [], []⟩) := HS.out.consts HO.out
    clear HO
    clear HS
    have HS := HT
    clear HT
    go_wp2_with fail
    refine (variables_any N R M en names _ q3 HS.out.rd HS.out.nm HNE.out).mono ?_
    intro e w5 hp
    cases hs : readP en (nameP en names) q3 with
    | bad x er =>
      rw [hs] at hp
      obtain ⟨rfl, hfr⟩ := hp
      have hfr2 := HS.out.fr.trans hfr
      have HPB : Hid (P = .bad x er) := by show _ = _; rw [HP.out, hs]; rfl
      clear hs hfr
      go_wp2
      exact ⟨rfl, by rw [HPB.out]; exact ⟨rfl, hfr2⟩⟩
    | ok vs q4 =>
      rw [hs] at hp
      obtain ⟨v5, rfl, ⟨ho, _⟩, hrd, hfr⟩ := hp
      have HO : Hid (w5.ownsRow w.heap.size 3 1 v5 vs.length (vs.map (Value.int .i64))) := own_mono9 ho HS.out.base
      obtain ⟨a5, c5, hv⟩ := own_form ho
      subst hv
      clear ho
      have HT : Hid (ConS N R M en names w w3.heap.size w5 q4 (.slice none 0 0) (.slice a4 cs.length c4) (.slice none 0 0) (.slice none 0 0) ⟨2, [], cs, 0, [], []⟩) := HS.out.call hfr hrd
      clear HS
      have HS := HT
      clear HT
      have HPN : Hid (P = ((numberP en q4).bind fun n l => .ok ⟨2, vs, cs, n, [], []⟩ l).bind fun c l => (skipP en semiW l).bind fun _ l => .ok c l) := by show _ = _; rw [HP.out, hs]; rfl
      clear HP
      have HP := HPN
      clear HPN hs hrd hfr
      have r1 := blk9 HS.out.con 1 _ rfl
      have z1 := frz9 HS.out.con 1
      have HT : Hid (ConS N R M en names w w3.heap.size (w5.setCell ⟨w3.heap.size, 1, none⟩ (.slice a5 vs.length c5)) q4 (.slice a5 vs.length c5) (.slice a4 cs.length c4) (.slice none 0 0) (.slice none 0 0) ⟨2, vs, cs, 0, [], []⟩) := HS.out.vars HO.out
      clear HO
      clear HS
      have HS := HT
      clear HT
      go_wp2_with fail
      refine (number_any N R M en _ q4 HS.out.rd).mono ?_
      intro e w6 hp
      cases hs : numberP en q4 with
      | bad x er =>
        rw [hs] at hp
        obtain ⟨rfl, hfr⟩ := hp
        have hfr2 := HS.out.fr.trans hfr
        have HPB : Hid (P = .bad x er) := by show _ = _; rw [HP.out, hs]; rfl
        clear hs hfr
        go_wp2
        exact ⟨rfl, by rw [HPB.out]; exact ⟨rfl, hfr2⟩⟩
      | ok n q5 =>
        rw [hs] at hp
        obtain ⟨v6, rfl, ⟨rfl, _, _⟩, hrd, hfr⟩ := hp
        have HT : Hid (ConS N R M en names w w3.heap.size w6 q5 (.slice a5 vs.length c5) (.slice a4 cs.length c4) (.slice none 0 0) (.slice none 0 0) ⟨2, vs, cs, 0, [], []⟩) := HS.out.call hfr hrd
        clear HS
        have HS := HT
        clear HT
        have HPN : Hid (P = (PR.ok ⟨2, vs, cs, n, [], []⟩ q5).bind fun c l => (skipP en semiW l).bind fun _ l => .ok c l) := by show _ = _; rw [HP.out, hs]; rfl
        clear HP
        have HP := HPN
        clear HPN hs hrd hfr
        have r3 := blk9 HS.out.con 3 _ rfl
        have z3 := frz9 HS.out.con 3
        have HT : Hid (ConS N R M en names w w3.heap.size (w6.setCell ⟨w3.heap.size, 3, none⟩ (.int .i64 n)) q5 (.slice a5 vs.length c5) (.slice a4 cs.length c4) (.slice none 0 0) (.slice none 0 0) ⟨2, vs, cs, n, [], []⟩) := HS.out.n n
        clear HS
        have HS := HT
        clear HT
        have HPN : Hid (P = (skipP en semiW q5).bind fun _ l => .ok ⟨2, vs, cs, n, [], []⟩ l) := by show _ = _; rw [HP.out]; rfl
        clear HP
        have HP := HPN
        clear HPN
        go_wp2_with fail
        refine (rskip_any N R M en semiW solid_semi _ q5 HS.out.rd).mono ?_
        intro e w7 hp
        cases hs : skipP en semiW q5 with
        | bad x er =>
          rw [hs] at hp
          obtain ⟨rfl, hfr⟩ := hp
          have hfr2 := HS.out.fr.trans hfr
          have HPB : Hid (P = .bad x er) := by show _ = _; rw [HP.out, hs]; rfl
          clear hs hfr
          go_wp2
          exact ⟨rfl, by rw [HPB.out]; exact ⟨rfl, hfr2⟩⟩
        | ok t9 q9 =>
          rw [hs] at hp
          obtain ⟨v, rfl, rfl, hrd, hfr⟩ := hp
          have HT : Hid (ConS N R M en names w w3.heap.size w7 q9 (.slice a5 vs.length c5) (.slice a4 cs.length c4) (.slice none 0 0) (.slice none 0 0) ⟨2, vs, cs, n, [], []⟩) := HS.out.call hfr hrd
          have HPN : Hid (P = .ok ⟨2, vs, cs, n, [], []⟩ q9) := by show _ = _; rw [HP.out, hs]; rfl
          clear HP HS hs hrd hfr
          have a0 := blk9 HT.out.con 0 _ rfl
          have a1 := blk9 HT.out.con 1 _ rfl
          have a2 := blk9 HT.out.con 2 _ rfl
          have a3 := blk9 HT.out.con 3 _ rfl
          have a4 := blk9 HT.out.con 4 _ rfl
          have a5 := blk9 HT.out.con 5 _ rfl
          have b0 := blk9 HT.out.res 0 _ rfl
          have b1 := blk9 HT.out.res 1 _ rfl
          have b2 := blk9 HT.out.res 2 _ rfl
          have b3 := blk9 HT.out.res 3 _ rfl
          have b4 := blk9 HT.out.res 4 _ rfl
          have b5 := blk9 HT.out.res 5 _ rfl
          have z0 := frz9 HT.out.res 0
          have z1 := frz9 HT.out.res 1
          have z2 := frz9 HT.out.res 2
          have z3 := frz9 HT.out.res 3
          have z4 := frz9 HT.out.res 4
          have z5 := frz9 HT.out.res 5
          go_wp2
          refine bodyPost_ret (by simp [results, Tryz.results177, go_sem, *]; try rfl) rfl ?_
          rw [HPN.out]
          obtain ⟨e1, e2, e3⟩ := HT.out.endd _ _ _ _ _ _ _ rfl
          exact ⟨_, rfl, ⟨_, _, _, _, rfl, e1⟩, e2, e3⟩

set_option maxHeartbeats 1600000 in
set_option maxRecDepth 100000 in
theorem con_3 (N R M : Nat) (en : Int) (names : List ByteArray) (w : World) (l : List Tok) (h : Rd N R M en w l) (hn : NmS w M names) (hne : ∀ n ∈ names, n.data.toList ≠ []) (t1 : Tok) (q1 q2 : List Tok)
    (hs1 : skipP en conW l = .ok t1 q1) (hs2 : oneOfP en conWL q1 = .ok 3 q2) :
    Calls Tryz.prog 177 #[.pointer (some ⟨R, 0, none⟩)] w (PostR (conP en names l) (GC w.heap.size) N R M en (fun k => k = R) w) := by
  have HB : Hid (Rd N R M en w l) := h
  have HN : Hid (NmS w M names) := hn
  have HNE : Hid (∀ n ∈ names, n.data.toList ≠ []) := hne
  have HS1 : Hid (skipP en conW l = .ok t1 q1) := hs1
  have HS2 : Hid (oneOfP en conWL q1 = .ok 3 q2) := hs2
  have hRw : R < w.heap.size := by obtain ⟨_, _, hR, _⟩ := h; exact (Array.getElem?_eq_some_iff.1 hR).1
  obtain ⟨P, hP⟩ : ∃ P, conP en names l = P := ⟨_, rfl⟩
  have HP : Hid (P = ((readP en (numberP en) q2).bind fun cs l => (readP en (nameP en names) l).bind fun vs l => (numberP en l).bind fun n l => .ok ⟨3, vs, cs, n, [], []⟩ l).bind fun c l => (skipP en semiW l).bind fun _ l => .ok c l) := by
    show _ = _; rw [← hP]; unfold conP; rw [hs1]; show ((oneOfP en conWL q1).bind _) = _; rw [hs2]; show (bodyP en names 3 q2).bind _ = _; rw [(show bodyP en names 3 q2 = (readP en (numberP en) q2).bind fun cs l => (readP en (nameP en names) l).bind fun vs l => (numberP en l).bind fun n l => .ok ⟨3, vs, cs, n, [], []⟩ l by simp [bodyP])]
  rw [hP]
  clear h hP hn hne hs1 hs2
  go_enter Tryz.func177, Tryz.ntmps177
  go_wp2_with fail
  have HR0 := HB.out.below (below_alloc w (.cells #[.int .i64 0, .slice none 0 0, .slice none 0 0, .int .i64 0, .slice none 0 0, .slice none 0 0] 73))
  have HQ0 : (w.alloc (.cells #[.int .i64 0, .slice none 0 0, .slice none 0 0, .int .i64 0, .slice none 0 0, .slice none 0 0] 73)).heap[w.heap.size]? = some (.cells #[.int .i64 0, .slice none 0 0, .slice none 0 0, .int .i64 0, .slice none 0 0, .slice none 0 0] 73) := by show (w.heap.push _)[w.heap.size]? = _; simp
  have HBA := below_alloc w (.cells #[.int .i64 0, .slice none 0 0, .slice none 0 0, .int .i64 0, .slice none 0 0, .slice none 0 0] 73)
  refine (rskip_any N R M en conW solid_con _ l HR0).mono ?_
  intro e w1 hp
  rw [HS1.out] at hp
  obtain ⟨v, rfl, rfl, hrd1, hfr1⟩ := hp
  have HR1 : Hid (Rd N R M en w1 q1) := hrd1
  have HF1 : Hid (Fr (fun k => k = R) w w1) := (Fr.below HBA).trans hfr1
  have HQ1 : Hid (w1.heap[w.heap.size]? = some (.cells #[.int .i64 0, .slice none 0 0, .slice none 0 0, .int .i64 0, .slice none 0 0, .slice none 0 0] 73)) := (hfr1.block _ (by simp) (by omega)).trans HQ0
  clear HR0 HQ0 HBA hrd1 hfr1
  go_wp2_with fail
  refine (words_cons w1).mono ?_
  rintro e w2 ⟨sv, rfl, hsv, hb2⟩
  have HSV : Hid (SArg w2 sv conWL) := hsv
  obtain ⟨as_, cs_, rfl, _, _⟩ := hsv
  have HR2 : Hid (Rd N R M en w2 q1) := HR1.out.below hb2
  have HF2 : Hid (Fr (fun k => k = R) w w2) := HF1.out.trans (Fr.below hb2)
  have HQ2 : Hid (w2.heap[w.heap.size]? = some (.cells #[.int .i64 0, .slice none 0 0, .slice none 0 0, .int .i64 0, .slice none 0 0, .slice none 0 0] 73)) := (hb2.block _ (Array.getElem?_eq_some_iff.1 HQ1.out).1).trans HQ1.out
  clear hb2
  go_wp2_with fail
  refine (oneof_any N R M en conWL _ w2 q1 HR2.out HSV.out).mono ?_
  intro e w3 hp
  rw [HS2.out] at hp
  obtain ⟨v, rfl, rfl, hrd3, hfr3⟩ := hp
  have HS : Hid (ConS N R M en names w w3.heap.size (w3.alloc (.cells #[.int .i64 3, .slice none 0 0, .slice none 0 0, .int .i64 0, .slice none 0 0, .slice none 0 0] 73)) q2 (.slice none 0 0) (.slice none 0 0) (.slice none 0 0) (.slice none 0 0) ⟨3, [], [], 0, [], []⟩) := by
    have hbq := below_alloc w3 (.cells #[.int .i64 3, .slice none 0 0, .slice none 0 0, .int .i64 0, .slice none 0 0, .slice none 0 0] 73)
    have hlt : w.heap.size < w3.heap.size := Nat.lt_of_lt_of_le (Array.getElem?_eq_some_iff.1 HQ2.out).1 hfr3.size
    have hfr := (HF2.out.trans hfr3).trans (Fr.below hbq)
    exact ⟨hrd3.below hbq, hfr, HN.out.old (hfr.block M HN.out.lt HB.out.1.2.2), (hbq.block _ hlt).trans ((hfr3.block _ (Array.getElem?_eq_some_iff.1 HQ2.out).1 (by omega)).trans HQ2.out), by show (w3.heap.push _)[w3.heap.size]? = _; simp, hlt, hRw, HB.out.1.2.1, HN.out.lt, ConR.none _ _ _⟩
  clear hrd3 hfr3 HR1 HR2 HF1 HF2 HQ1 HQ2
  skip
  go_wp2_with fail
  refine (numbers_any N R M en _ q2 HS.out.rd).mono ?_
  intro e w4 hp
  cases hs : readP en (numberP en) q2 with
  | bad x er =>
    rw [hs] at hp
    obtain ⟨rfl, hfr⟩ := hp
    have hfr2 := HS.out.fr.trans hfr
    have HPB : Hid (P = .bad x er) := by show _ = _; rw [HP.out, hs]; rfl
    clear hs hfr
    go_wp2
    exact ⟨rfl, by rw [HPB.out]; exact ⟨rfl, hfr2⟩⟩
  | ok cs q3 =>
    rw [hs] at hp
    obtain ⟨v4, rfl, ho, hrd, hfr⟩ := hp
    have HO : Hid (w4.ownsRow w.heap.size 3 1 v4 cs.length (cs.map (Value.int .i64))) := own_mono9 ho HS.out.base
    obtain ⟨a4, c4, hv⟩ := own_form ho
    subst hv
    clear ho
    have HT : Hid (ConS N R M en names w w3.heap.size w4 q3 (.slice none 0 0) (.slice none 0 0) (.slice none 0 0) (.slice none 0 0) ⟨3, [], [], 0, [], []⟩) := HS.out.call hfr hrd
    clear HS
    have HS := HT
    clear HT
    have HPN : Hid (P = ((readP en (nameP en names) q3).bind fun vs l => (numberP en l).bind fun n l => .ok ⟨3, vs, cs, n, [], []⟩ l).bind fun c l => (skipP en semiW l).bind fun _ l => .ok c l) := by show _ = _; rw [HP.out, hs]; rfl
    clear HP
    have HP := HPN
    clear HPN hs hrd hfr
    have r2 := blk9 HS.out.con 2 _ rfl
    have z2 := frz9 HS.out.con 2
    have HT : Hid (ConS N R M en names w w3.heap.size (w4.setCell ⟨w3.heap.size, 2, none⟩ (.slice a4 cs.length c4)) q3 (.slice none 0 0) (.slice a4 cs.length c4) (.slice none 0 0) (.slice none 0 0) ⟨3, [], cs, 0, [], []⟩) := HS.out.consts HO.out
    clear HO
    clear HS
    have HS := HT
    clear HT
    go_wp2_with fail
    refine (variables_any N R M en names _ q3 HS.out.rd HS.out.nm HNE.out).mono ?_
    intro e w5 hp
    cases hs : readP en (nameP en names) q3 with
    | bad x er =>
      rw [hs] at hp
      obtain ⟨rfl, hfr⟩ := hp
      have hfr2 := HS.out.fr.trans hfr
      have HPB : Hid (P = .bad x er) := by show _ = _; rw [HP.out, hs]; rfl
      clear hs hfr
      go_wp2
      exact ⟨rfl, by rw [HPB.out]; exact ⟨rfl, hfr2⟩⟩
    | ok vs q4 =>
      rw [hs] at hp
      obtain ⟨v5, rfl, ⟨ho, _⟩, hrd, hfr⟩ := hp
      have HO : Hid (w5.ownsRow w.heap.size 3 1 v5 vs.length (vs.map (Value.int .i64))) := own_mono9 ho HS.out.base
      obtain ⟨a5, c5, hv⟩ := own_form ho
      subst hv
      clear ho
      have HT : Hid (ConS N R M en names w w3.heap.size w5 q4 (.slice none 0 0) (.slice a4 cs.length c4) (.slice none 0 0) (.slice none 0 0) ⟨3, [], cs, 0, [], []⟩) := HS.out.call hfr hrd
      clear HS
      have HS := HT
      clear HT
      have HPN : Hid (P = ((numberP en q4).bind fun n l => .ok ⟨3, vs, cs, n, [], []⟩ l).bind fun c l => (skipP en semiW l).bind fun _ l => .ok c l) := by show _ = _; rw [HP.out, hs]; rfl
      clear HP
      have HP := HPN
      clear HPN hs hrd hfr
      have r1 := blk9 HS.out.con 1 _ rfl
      have z1 := frz9 HS.out.con 1
      have HT : Hid (ConS N R M en names w w3.heap.size (w5.setCell ⟨w3.heap.size, 1, none⟩ (.slice a5 vs.length c5)) q4 (.slice a5 vs.length c5) (.slice a4 cs.length c4) (.slice none 0 0) (.slice none 0 0) ⟨3, vs, cs, 0, [], []⟩) := HS.out.vars HO.out
      clear HO
      clear HS
      have HS := HT
      clear HT
      go_wp2_with fail
      refine (number_any N R M en _ q4 HS.out.rd).mono ?_
      intro e w6 hp
      cases hs : numberP en q4 with
      | bad x er =>
        rw [hs] at hp
        obtain ⟨rfl, hfr⟩ := hp
        have hfr2 := HS.out.fr.trans hfr
        have HPB : Hid (P = .bad x er) := by show _ = _; rw [HP.out, hs]; rfl
        clear hs hfr
        go_wp2
        exact ⟨rfl, by rw [HPB.out]; exact ⟨rfl, hfr2⟩⟩
      | ok n q5 =>
        rw [hs] at hp
        obtain ⟨v6, rfl, ⟨rfl, _, _⟩, hrd, hfr⟩ := hp
        have HT : Hid (ConS N R M en names w w3.heap.size w6 q5 (.slice a5 vs.length c5) (.slice a4 cs.length c4) (.slice none 0 0) (.slice none 0 0) ⟨3, vs, cs, 0, [], []⟩) := HS.out.call hfr hrd
        clear HS
        have HS := HT
        clear HT
        have HPN : Hid (P = (PR.ok ⟨3, vs, cs, n, [], []⟩ q5).bind fun c l => (skipP en semiW l).bind fun _ l => .ok c l) := by show _ = _; rw [HP.out, hs]; rfl
        clear HP
        have HP := HPN
        clear HPN hs hrd hfr
        have r3 := blk9 HS.out.con 3 _ rfl
        have z3 := frz9 HS.out.con 3
        have HT : Hid (ConS N R M en names w w3.heap.size (w6.setCell ⟨w3.heap.size, 3, none⟩ (.int .i64 n)) q5 (.slice a5 vs.length c5) (.slice a4 cs.length c4) (.slice none 0 0) (.slice none 0 0) ⟨3, vs, cs, n, [], []⟩) := HS.out.n n
        clear HS
        have HS := HT
        clear HT
        have HPN : Hid (P = (skipP en semiW q5).bind fun _ l => .ok ⟨3, vs, cs, n, [], []⟩ l) := by show _ = _; rw [HP.out]; rfl
        clear HP
        have HP := HPN
        clear HPN
        go_wp2_with fail
        refine (rskip_any N R M en semiW solid_semi _ q5 HS.out.rd).mono ?_
        intro e w7 hp
        cases hs : skipP en semiW q5 with
        | bad x er =>
          rw [hs] at hp
          obtain ⟨rfl, hfr⟩ := hp
          have hfr2 := HS.out.fr.trans hfr
          have HPB : Hid (P = .bad x er) := by show _ = _; rw [HP.out, hs]; rfl
          clear hs hfr
          go_wp2
          exact ⟨rfl, by rw [HPB.out]; exact ⟨rfl, hfr2⟩⟩
        | ok t9 q9 =>
          rw [hs] at hp
          obtain ⟨v, rfl, rfl, hrd, hfr⟩ := hp
          have HT : Hid (ConS N R M en names w w3.heap.size w7 q9 (.slice a5 vs.length c5) (.slice a4 cs.length c4) (.slice none 0 0) (.slice none 0 0) ⟨3, vs, cs, n, [], []⟩) := HS.out.call hfr hrd
          have HPN : Hid (P = .ok ⟨3, vs, cs, n, [], []⟩ q9) := by show _ = _; rw [HP.out, hs]; rfl
          clear HP HS hs hrd hfr
          have a0 := blk9 HT.out.con 0 _ rfl
          have a1 := blk9 HT.out.con 1 _ rfl
          have a2 := blk9 HT.out.con 2 _ rfl
          have a3 := blk9 HT.out.con 3 _ rfl
          have a4 := blk9 HT.out.con 4 _ rfl
          have a5 := blk9 HT.out.con 5 _ rfl
          have b0 := blk9 HT.out.res 0 _ rfl
          have b1 := blk9 HT.out.res 1 _ rfl
          have b2 := blk9 HT.out.res 2 _ rfl
          have b3 := blk9 HT.out.res 3 _ rfl
          have b4 := blk9 HT.out.res 4 _ rfl
          have b5 := blk9 HT.out.res 5 _ rfl
          have z0 := frz9 HT.out.res 0
          have z1 := frz9 HT.out.res 1
          have z2 := frz9 HT.out.res 2
          have z3 := frz9 HT.out.res 3
          have z4 := frz9 HT.out.res 4
          have z5 := frz9 HT.out.res 5
          go_wp2
          refine bodyPost_ret (by simp [results, Tryz.results177, go_sem, *]; try rfl) rfl ?_
          rw [HPN.out]
          obtain ⟨e1, e2, e3⟩ := HT.out.endd _ _ _ _ _ _ _ rfl
          exact ⟨_, rfl, ⟨_, _, _, _, rfl, e1⟩, e2, e3⟩

set_option maxHeartbeats 1600000 in
set_option maxRecDepth 100000 in
theorem con_5 (N R M : Nat) (en : Int) (names : List ByteArray) (w : World) (l : List Tok) (h : Rd N R M en w l) (hn : NmS w M names) (hne : ∀ n ∈ names, n.data.toList ≠ []) (t1 : Tok) (q1 q2 : List Tok)
    (hs1 : skipP en conW l = .ok t1 q1) (hs2 : oneOfP en conWL q1 = .ok 5 q2) :
    Calls Tryz.prog 177 #[.pointer (some ⟨R, 0, none⟩)] w (PostR (conP en names l) (GC w.heap.size) N R M en (fun k => k = R) w) := by
  have HB : Hid (Rd N R M en w l) := h
  have HN : Hid (NmS w M names) := hn
  have HNE : Hid (∀ n ∈ names, n.data.toList ≠ []) := hne
  have HS1 : Hid (skipP en conW l = .ok t1 q1) := hs1
  have HS2 : Hid (oneOfP en conWL q1 = .ok 5 q2) := hs2
  have hRw : R < w.heap.size := by obtain ⟨_, _, hR, _⟩ := h; exact (Array.getElem?_eq_some_iff.1 hR).1
  obtain ⟨P, hP⟩ : ∃ P, conP en names l = P := ⟨_, rfl⟩
  have HP : Hid (P = ((readP en (numberP en) q2).bind fun cs l => (nameP en names l).bind fun a l => (nameP en names l).bind fun b l => .ok ⟨5, [a, b], cs, 0, [], []⟩ l).bind fun c l => (skipP en semiW l).bind fun _ l => .ok c l) := by
    show _ = _; rw [← hP]; unfold conP; rw [hs1]; show ((oneOfP en conWL q1).bind _) = _; rw [hs2]; show (bodyP en names 5 q2).bind _ = _; rw [(show bodyP en names 5 q2 = (readP en (numberP en) q2).bind fun cs l => (nameP en names l).bind fun a l => (nameP en names l).bind fun b l => .ok ⟨5, [a, b], cs, 0, [], []⟩ l by simp [bodyP])]
  rw [hP]
  clear h hP hn hne hs1 hs2
  go_enter Tryz.func177, Tryz.ntmps177
  go_wp2_with fail
  have HR0 := HB.out.below (below_alloc w (.cells #[.int .i64 0, .slice none 0 0, .slice none 0 0, .int .i64 0, .slice none 0 0, .slice none 0 0] 73))
  have HQ0 : (w.alloc (.cells #[.int .i64 0, .slice none 0 0, .slice none 0 0, .int .i64 0, .slice none 0 0, .slice none 0 0] 73)).heap[w.heap.size]? = some (.cells #[.int .i64 0, .slice none 0 0, .slice none 0 0, .int .i64 0, .slice none 0 0, .slice none 0 0] 73) := by show (w.heap.push _)[w.heap.size]? = _; simp
  have HBA := below_alloc w (.cells #[.int .i64 0, .slice none 0 0, .slice none 0 0, .int .i64 0, .slice none 0 0, .slice none 0 0] 73)
  refine (rskip_any N R M en conW solid_con _ l HR0).mono ?_
  intro e w1 hp
  rw [HS1.out] at hp
  obtain ⟨v, rfl, rfl, hrd1, hfr1⟩ := hp
  have HR1 : Hid (Rd N R M en w1 q1) := hrd1
  have HF1 : Hid (Fr (fun k => k = R) w w1) := (Fr.below HBA).trans hfr1
  have HQ1 : Hid (w1.heap[w.heap.size]? = some (.cells #[.int .i64 0, .slice none 0 0, .slice none 0 0, .int .i64 0, .slice none 0 0, .slice none 0 0] 73)) := (hfr1.block _ (by simp) (by omega)).trans HQ0
  clear HR0 HQ0 HBA hrd1 hfr1
  go_wp2_with fail
  refine (words_cons w1).mono ?_
  rintro e w2 ⟨sv, rfl, hsv, hb2⟩
  have HSV : Hid (SArg w2 sv conWL) := hsv
  obtain ⟨as_, cs_, rfl, _, _⟩ := hsv
  have HR2 : Hid (Rd N R M en w2 q1) := HR1.out.below hb2
  have HF2 : Hid (Fr (fun k => k = R) w w2) := HF1.out.trans (Fr.below hb2)
  have HQ2 : Hid (w2.heap[w.heap.size]? = some (.cells #[.int .i64 0, .slice none 0 0, .slice none 0 0, .int .i64 0, .slice none 0 0, .slice none 0 0] 73)) := (hb2.block _ (Array.getElem?_eq_some_iff.1 HQ1.out).1).trans HQ1.out
  clear hb2
  go_wp2_with fail
  refine (oneof_any N R M en conWL _ w2 q1 HR2.out HSV.out).mono ?_
  intro e w3 hp
  rw [HS2.out] at hp
  obtain ⟨v, rfl, rfl, hrd3, hfr3⟩ := hp
  have HS : Hid (ConS N R M en names w w3.heap.size (w3.alloc (.cells #[.int .i64 5, .slice none 0 0, .slice none 0 0, .int .i64 0, .slice none 0 0, .slice none 0 0] 73)) q2 (.slice none 0 0) (.slice none 0 0) (.slice none 0 0) (.slice none 0 0) ⟨5, [], [], 0, [], []⟩) := by
    have hbq := below_alloc w3 (.cells #[.int .i64 5, .slice none 0 0, .slice none 0 0, .int .i64 0, .slice none 0 0, .slice none 0 0] 73)
    have hlt : w.heap.size < w3.heap.size := Nat.lt_of_lt_of_le (Array.getElem?_eq_some_iff.1 HQ2.out).1 hfr3.size
    have hfr := (HF2.out.trans hfr3).trans (Fr.below hbq)
    exact ⟨hrd3.below hbq, hfr, HN.out.old (hfr.block M HN.out.lt HB.out.1.2.2), (hbq.block _ hlt).trans ((hfr3.block _ (Array.getElem?_eq_some_iff.1 HQ2.out).1 (by omega)).trans HQ2.out), by show (w3.heap.push _)[w3.heap.size]? = _; simp, hlt, hRw, HB.out.1.2.1, HN.out.lt, ConR.none _ _ _⟩
  clear hrd3 hfr3 HR1 HR2 HF1 HF2 HQ1 HQ2
  skip
  go_wp2_with fail
  refine (numbers_any N R M en _ q2 HS.out.rd).mono ?_
  intro e w4 hp
  cases hs : readP en (numberP en) q2 with
  | bad x er =>
    rw [hs] at hp
    obtain ⟨rfl, hfr⟩ := hp
    have hfr2 := HS.out.fr.trans hfr
    have HPB : Hid (P = .bad x er) := by show _ = _; rw [HP.out, hs]; rfl
    clear hs hfr
    go_wp2
    exact ⟨rfl, by rw [HPB.out]; exact ⟨rfl, hfr2⟩⟩
  | ok cs q3 =>
    rw [hs] at hp
    obtain ⟨v4, rfl, ho, hrd, hfr⟩ := hp
    have HO : Hid (w4.ownsRow w.heap.size 3 1 v4 cs.length (cs.map (Value.int .i64))) := own_mono9 ho HS.out.base
    obtain ⟨a4, c4, hv⟩ := own_form ho
    subst hv
    clear ho
    have HT : Hid (ConS N R M en names w w3.heap.size w4 q3 (.slice none 0 0) (.slice none 0 0) (.slice none 0 0) (.slice none 0 0) ⟨5, [], [], 0, [], []⟩) := HS.out.call hfr hrd
    clear HS
    have HS := HT
    clear HT
    have HPN : Hid (P = ((nameP en names q3).bind fun a l => (nameP en names l).bind fun b l => .ok ⟨5, [a, b], cs, 0, [], []⟩ l).bind fun c l => (skipP en semiW l).bind fun _ l => .ok c l) := by show _ = _; rw [HP.out, hs]; rfl
    clear HP
    have HP := HPN
    clear HPN hs hrd hfr
    have r2 := blk9 HS.out.con 2 _ rfl
    have z2 := frz9 HS.out.con 2
    have HT : Hid (ConS N R M en names w w3.heap.size (w4.setCell ⟨w3.heap.size, 2, none⟩ (.slice a4 cs.length c4)) q3 (.slice none 0 0) (.slice a4 cs.length c4) (.slice none 0 0) (.slice none 0 0) ⟨5, [], cs, 0, [], []⟩) := HS.out.consts HO.out
    clear HO
    clear HS
    have HS := HT
    clear HT
    go_wp2_with fail
    refine (name_any N R M en names _ q3 HS.out.rd HS.out.nm HNE.out).mono ?_
    intro e w5 hp
    cases hs : nameP en names q3 with
    | bad x er =>
      rw [hs] at hp
      obtain ⟨rfl, hfr⟩ := hp
      have hfr2 := HS.out.fr.trans hfr
      have HPB : Hid (P = .bad x er) := by show _ = _; rw [HP.out, hs]; rfl
      clear hs hfr
      go_wp2
      exact ⟨rfl, by rw [HPB.out]; exact ⟨rfl, hfr2⟩⟩
    | ok a q4 =>
      rw [hs] at hp
      obtain ⟨v5, rfl, rfl, hrd, hfr⟩ := hp
      have HT : Hid (ConS N R M en names w w3.heap.size w5 q4 (.slice none 0 0) (.slice a4 cs.length c4) (.slice none 0 0) (.slice none 0 0) ⟨5, [], cs, 0, [], []⟩) := HS.out.call hfr hrd
      clear HS
      have HS := HT
      clear HT
      have HPN : Hid (P = ((nameP en names q4).bind fun b l => .ok ⟨5, [a, b], cs, 0, [], []⟩ l).bind fun c l => (skipP en semiW l).bind fun _ l => .ok c l) := by show _ = _; rw [HP.out, hs]; rfl
      clear HP
      have HP := HPN
      clear HPN hs hrd hfr
      go_wp2_with fail
      refine (name_any N R M en names _ q4 HS.out.rd HS.out.nm HNE.out).mono ?_
      intro e w6 hp
      cases hs : nameP en names q4 with
      | bad x er =>
        rw [hs] at hp
        obtain ⟨rfl, hfr⟩ := hp
        have hfr2 := HS.out.fr.trans hfr
        have HPB : Hid (P = .bad x er) := by show _ = _; rw [HP.out, hs]; rfl
        clear hs hfr
        go_wp2
        exact ⟨rfl, by rw [HPB.out]; exact ⟨rfl, hfr2⟩⟩
      | ok b q5 =>
        rw [hs] at hp
        obtain ⟨v6, rfl, rfl, hrd, hfr⟩ := hp
        have HT : Hid (ConS N R M en names w w3.heap.size w6 q5 (.slice none 0 0) (.slice a4 cs.length c4) (.slice none 0 0) (.slice none 0 0) ⟨5, [], cs, 0, [], []⟩) := HS.out.call hfr hrd
        clear HS
        have HS := HT
        clear HT
        have HPN : Hid (P = (PR.ok ⟨5, [a, b], cs, 0, [], []⟩ q5).bind fun c l => (skipP en semiW l).bind fun _ l => .ok c l) := by show _ = _; rw [HP.out, hs]; rfl
        clear HP
        have HP := HPN
        clear HPN hs hrd hfr
        have r1 := blk9 HS.out.con 1 _ rfl
        have z1 := frz9 HS.out.con 1
        have hCl : w3.heap.size < w6.heap.size := (Array.getElem?_eq_some_iff.1 HS.out.con).1
        have HT : Hid (ConS N R M en names w w3.heap.size ((w6.setCell ⟨w3.heap.size, 1, none⟩ (.slice (some ⟨w6.heap.size, 0, none⟩) 2 2)).alloc (.cells #[.int .i64 a, .int .i64 b] 3)) q5 (.slice (some ⟨w6.heap.size, 0, none⟩) 2 2) (.slice a4 cs.length c4) (.slice none 0 0) (.slice none 0 0) ⟨5, [a, b], cs, 0, [], []⟩) := HS.out.varsLit [a, b] (by simp)
        clear HS
        have HS := HT
        clear HT
        have HPN : Hid (P = (skipP en semiW q5).bind fun _ l => .ok ⟨5, [a, b], cs, 0, [], []⟩ l) := by show _ = _; rw [HP.out]; rfl
        clear HP
        have HP := HPN
        clear HPN
        go_wp2_with fail
        refine (rskip_any N R M en semiW solid_semi _ q5 HS.out.rd).mono ?_
        intro e w7 hp
        cases hs : skipP en semiW q5 with
        | bad x er =>
          rw [hs] at hp
          obtain ⟨rfl, hfr⟩ := hp
          have hfr2 := HS.out.fr.trans hfr
          have HPB : Hid (P = .bad x er) := by show _ = _; rw [HP.out, hs]; rfl
          clear hs hfr
          go_wp2
          exact ⟨rfl, by rw [HPB.out]; exact ⟨rfl, hfr2⟩⟩
        | ok t9 q9 =>
          rw [hs] at hp
          obtain ⟨v, rfl, rfl, hrd, hfr⟩ := hp
          have HT : Hid (ConS N R M en names w w3.heap.size w7 q9 (.slice (some ⟨w6.heap.size, 0, none⟩) 2 2) (.slice a4 cs.length c4) (.slice none 0 0) (.slice none 0 0) ⟨5, [a, b], cs, 0, [], []⟩) := HS.out.call hfr hrd
          have HPN : Hid (P = .ok ⟨5, [a, b], cs, 0, [], []⟩ q9) := by show _ = _; rw [HP.out, hs]; rfl
          clear HP HS hs hrd hfr
          have a0 := blk9 HT.out.con 0 _ rfl
          have a1 := blk9 HT.out.con 1 _ rfl
          have a2 := blk9 HT.out.con 2 _ rfl
          have a3 := blk9 HT.out.con 3 _ rfl
          have a4 := blk9 HT.out.con 4 _ rfl
          have a5 := blk9 HT.out.con 5 _ rfl
          have b0 := blk9 HT.out.res 0 _ rfl
          have b1 := blk9 HT.out.res 1 _ rfl
          have b2 := blk9 HT.out.res 2 _ rfl
          have b3 := blk9 HT.out.res 3 _ rfl
          have b4 := blk9 HT.out.res 4 _ rfl
          have b5 := blk9 HT.out.res 5 _ rfl
          have z0 := frz9 HT.out.res 0
          have z1 := frz9 HT.out.res 1
          have z2 := frz9 HT.out.res 2
          have z3 := frz9 HT.out.res 3
          have z4 := frz9 HT.out.res 4
          have z5 := frz9 HT.out.res 5
          go_wp2
          refine bodyPost_ret (by simp [results, Tryz.results177, go_sem, *]; try rfl) rfl ?_
          rw [HPN.out]
          obtain ⟨e1, e2, e3⟩ := HT.out.endd _ _ _ _ _ _ _ rfl
          exact ⟨_, rfl, ⟨_, _, _, _, rfl, e1⟩, e2, e3⟩

set_option maxHeartbeats 1600000 in
set_option maxRecDepth 100000 in
theorem con_6 (N R M : Nat) (en : Int) (names : List ByteArray) (w : World) (l : List Tok) (h : Rd N R M en w l) (hn : NmS w M names) (hne : ∀ n ∈ names, n.data.toList ≠ []) (t1 : Tok) (q1 q2 : List Tok)
    (hs1 : skipP en conW l = .ok t1 q1) (hs2 : oneOfP en conWL q1 = .ok 6 q2) :
    Calls Tryz.prog 177 #[.pointer (some ⟨R, 0, none⟩)] w (PostR (conP en names l) (GC w.heap.size) N R M en (fun k => k = R) w) := by
  have HB : Hid (Rd N R M en w l) := h
  have HN : Hid (NmS w M names) := hn
  have HNE : Hid (∀ n ∈ names, n.data.toList ≠ []) := hne
  have HS1 : Hid (skipP en conW l = .ok t1 q1) := hs1
  have HS2 : Hid (oneOfP en conWL q1 = .ok 6 q2) := hs2
  have hRw : R < w.heap.size := by obtain ⟨_, _, hR, _⟩ := h; exact (Array.getElem?_eq_some_iff.1 hR).1
  obtain ⟨P, hP⟩ : ∃ P, conP en names l = P := ⟨_, rfl⟩
  have HP : Hid (P = ((readP en (nameP en names) q2).bind fun vs l => (readP en (readP en (numberP en)) l).bind fun rs l => .ok ⟨6, vs, [], 0, rs, []⟩ l).bind fun c l => (skipP en semiW l).bind fun _ l => .ok c l) := by
    show _ = _; rw [← hP]; unfold conP; rw [hs1]; show ((oneOfP en conWL q1).bind _) = _; rw [hs2]; show (bodyP en names 6 q2).bind _ = _; rw [(show bodyP en names 6 q2 = (readP en (nameP en names) q2).bind fun vs l => (readP en (readP en (numberP en)) l).bind fun rs l => .ok ⟨6, vs, [], 0, rs, []⟩ l by simp [bodyP])]
  rw [hP]
  clear h hP hn hne hs1 hs2
  go_enter Tryz.func177, Tryz.ntmps177
  go_wp2_with fail
  have HR0 := HB.out.below (below_alloc w (.cells #[.int .i64 0, .slice none 0 0, .slice none 0 0, .int .i64 0, .slice none 0 0, .slice none 0 0] 73))
  have HQ0 : (w.alloc (.cells #[.int .i64 0, .slice none 0 0, .slice none 0 0, .int .i64 0, .slice none 0 0, .slice none 0 0] 73)).heap[w.heap.size]? = some (.cells #[.int .i64 0, .slice none 0 0, .slice none 0 0, .int .i64 0, .slice none 0 0, .slice none 0 0] 73) := by show (w.heap.push _)[w.heap.size]? = _; simp
  have HBA := below_alloc w (.cells #[.int .i64 0, .slice none 0 0, .slice none 0 0, .int .i64 0, .slice none 0 0, .slice none 0 0] 73)
  refine (rskip_any N R M en conW solid_con _ l HR0).mono ?_
  intro e w1 hp
  rw [HS1.out] at hp
  obtain ⟨v, rfl, rfl, hrd1, hfr1⟩ := hp
  have HR1 : Hid (Rd N R M en w1 q1) := hrd1
  have HF1 : Hid (Fr (fun k => k = R) w w1) := (Fr.below HBA).trans hfr1
  have HQ1 : Hid (w1.heap[w.heap.size]? = some (.cells #[.int .i64 0, .slice none 0 0, .slice none 0 0, .int .i64 0, .slice none 0 0, .slice none 0 0] 73)) := (hfr1.block _ (by simp) (by omega)).trans HQ0
  clear HR0 HQ0 HBA hrd1 hfr1
  go_wp2_with fail
  refine (words_cons w1).mono ?_
  rintro e w2 ⟨sv, rfl, hsv, hb2⟩
  have HSV : Hid (SArg w2 sv conWL) := hsv
  obtain ⟨as_, cs_, rfl, _, _⟩ := hsv
  have HR2 : Hid (Rd N R M en w2 q1) := HR1.out.below hb2
  have HF2 : Hid (Fr (fun k => k = R) w w2) := HF1.out.trans (Fr.below hb2)
  have HQ2 : Hid (w2.heap[w.heap.size]? = some (.cells #[.int .i64 0, .slice none 0 0, .slice none 0 0, .int .i64 0, .slice none 0 0, .slice none 0 0] 73)) := (hb2.block _ (Array.getElem?_eq_some_iff.1 HQ1.out).1).trans HQ1.out
  clear hb2
  go_wp2_with fail
  refine (oneof_any N R M en conWL _ w2 q1 HR2.out HSV.out).mono ?_
  intro e w3 hp
  rw [HS2.out] at hp
  obtain ⟨v, rfl, rfl, hrd3, hfr3⟩ := hp
  have HS : Hid (ConS N R M en names w w3.heap.size (w3.alloc (.cells #[.int .i64 6, .slice none 0 0, .slice none 0 0, .int .i64 0, .slice none 0 0, .slice none 0 0] 73)) q2 (.slice none 0 0) (.slice none 0 0) (.slice none 0 0) (.slice none 0 0) ⟨6, [], [], 0, [], []⟩) := by
    have hbq := below_alloc w3 (.cells #[.int .i64 6, .slice none 0 0, .slice none 0 0, .int .i64 0, .slice none 0 0, .slice none 0 0] 73)
    have hlt : w.heap.size < w3.heap.size := Nat.lt_of_lt_of_le (Array.getElem?_eq_some_iff.1 HQ2.out).1 hfr3.size
    have hfr := (HF2.out.trans hfr3).trans (Fr.below hbq)
    exact ⟨hrd3.below hbq, hfr, HN.out.old (hfr.block M HN.out.lt HB.out.1.2.2), (hbq.block _ hlt).trans ((hfr3.block _ (Array.getElem?_eq_some_iff.1 HQ2.out).1 (by omega)).trans HQ2.out), by show (w3.heap.push _)[w3.heap.size]? = _; simp, hlt, hRw, HB.out.1.2.1, HN.out.lt, ConR.none _ _ _⟩
  clear hrd3 hfr3 HR1 HR2 HF1 HF2 HQ1 HQ2
  skip
  go_wp2_with fail
  refine (variables_any N R M en names _ q2 HS.out.rd HS.out.nm HNE.out).mono ?_
  intro e w4 hp
  cases hs : readP en (nameP en names) q2 with
  | bad x er =>
    rw [hs] at hp
    obtain ⟨rfl, hfr⟩ := hp
    have hfr2 := HS.out.fr.trans hfr
    have HPB : Hid (P = .bad x er) := by show _ = _; rw [HP.out, hs]; rfl
    clear hs hfr
    go_wp2
    exact ⟨rfl, by rw [HPB.out]; exact ⟨rfl, hfr2⟩⟩
  | ok vs q3 =>
    rw [hs] at hp
    obtain ⟨v4, rfl, ⟨ho, _⟩, hrd, hfr⟩ := hp
    have HO : Hid (w4.ownsRow w.heap.size 3 1 v4 vs.length (vs.map (Value.int .i64))) := own_mono9 ho HS.out.base
    obtain ⟨a4, c4, hv⟩ := own_form ho
    subst hv
    clear ho
    have HT : Hid (ConS N R M en names w w3.heap.size w4 q3 (.slice none 0 0) (.slice none 0 0) (.slice none 0 0) (.slice none 0 0) ⟨6, [], [], 0, [], []⟩) := HS.out.call hfr hrd
    clear HS
    have HS := HT
    clear HT
    have HPN : Hid (P = ((readP en (readP en (numberP en)) q3).bind fun rs l => .ok ⟨6, vs, [], 0, rs, []⟩ l).bind fun c l => (skipP en semiW l).bind fun _ l => .ok c l) := by show _ = _; rw [HP.out, hs]; rfl
    clear HP
    have HP := HPN
    clear HPN hs hrd hfr
    have r1 := blk9 HS.out.con 1 _ rfl
    have z1 := frz9 HS.out.con 1
    have HT : Hid (ConS N R M en names w w3.heap.size (w4.setCell ⟨w3.heap.size, 1, none⟩ (.slice a4 vs.length c4)) q3 (.slice a4 vs.length c4) (.slice none 0 0) (.slice none 0 0) (.slice none 0 0) ⟨6, vs, [], 0, [], []⟩) := HS.out.vars HO.out
    clear HO
    clear HS
    have HS := HT
    clear HT
    go_wp2_with fail
    refine (rows_any w.heap.size N R M en _ q3 HS.out.rd HS.out.base HS.out.Rw).mono ?_
    intro e w5 hp
    cases hs : readP en (readP en (numberP en)) q3 with
    | bad x er =>
      rw [hs] at hp
      obtain ⟨rfl, hfr⟩ := hp
      have hfr2 := HS.out.fr.trans hfr
      have HPB : Hid (P = .bad x er) := by show _ = _; rw [HP.out, hs]; rfl
      clear hs hfr
      go_wp2
      exact ⟨rfl, by rw [HPB.out]; exact ⟨rfl, hfr2⟩⟩
    | ok rs q4 =>
      rw [hs] at hp
      obtain ⟨v5, rfl, ho, hrd, hfr⟩ := hp
      have HO : Hid (LSr w.heap.size w.heap.size w5 v5 rs) := ho.mono HS.out.base
      obtain ⟨a5, c5, hv⟩ := ho.form
      subst hv
      clear ho
      have HT : Hid (ConS N R M en names w w3.heap.size w5 q4 (.slice a4 vs.length c4) (.slice none 0 0) (.slice none 0 0) (.slice none 0 0) ⟨6, vs, [], 0, [], []⟩) := HS.out.call hfr hrd
      clear HS
      have HS := HT
      clear HT
      have HPN : Hid (P = (PR.ok ⟨6, vs, [], 0, rs, []⟩ q4).bind fun c l => (skipP en semiW l).bind fun _ l => .ok c l) := by show _ = _; rw [HP.out, hs]; rfl
      clear HP
      have HP := HPN
      clear HPN hs hrd hfr
      have r4 := blk9 HS.out.con 4 _ rfl
      have z4 := frz9 HS.out.con 4
      have HT : Hid (ConS N R M en names w w3.heap.size (w5.setCell ⟨w3.heap.size, 4, none⟩ (.slice a5 rs.length c5)) q4 (.slice a4 vs.length c4) (.slice none 0 0) (.slice a5 rs.length c5) (.slice none 0 0) ⟨6, vs, [], 0, rs, []⟩) := HS.out.rows HO.out
      clear HO
      clear HS
      have HS := HT
      clear HT
      have HPN : Hid (P = (skipP en semiW q4).bind fun _ l => .ok ⟨6, vs, [], 0, rs, []⟩ l) := by show _ = _; rw [HP.out]; rfl
      clear HP
      have HP := HPN
      clear HPN
      go_wp2_with fail
      refine (rskip_any N R M en semiW solid_semi _ q4 HS.out.rd).mono ?_
      intro e w6 hp
      cases hs : skipP en semiW q4 with
      | bad x er =>
        rw [hs] at hp
        obtain ⟨rfl, hfr⟩ := hp
        have hfr2 := HS.out.fr.trans hfr
        have HPB : Hid (P = .bad x er) := by show _ = _; rw [HP.out, hs]; rfl
        clear hs hfr
        go_wp2
        exact ⟨rfl, by rw [HPB.out]; exact ⟨rfl, hfr2⟩⟩
      | ok t9 q9 =>
        rw [hs] at hp
        obtain ⟨v, rfl, rfl, hrd, hfr⟩ := hp
        have HT : Hid (ConS N R M en names w w3.heap.size w6 q9 (.slice a4 vs.length c4) (.slice none 0 0) (.slice a5 rs.length c5) (.slice none 0 0) ⟨6, vs, [], 0, rs, []⟩) := HS.out.call hfr hrd
        have HPN : Hid (P = .ok ⟨6, vs, [], 0, rs, []⟩ q9) := by show _ = _; rw [HP.out, hs]; rfl
        clear HP HS hs hrd hfr
        have a0 := blk9 HT.out.con 0 _ rfl
        have a1 := blk9 HT.out.con 1 _ rfl
        have a2 := blk9 HT.out.con 2 _ rfl
        have a3 := blk9 HT.out.con 3 _ rfl
        have a4 := blk9 HT.out.con 4 _ rfl
        have a5 := blk9 HT.out.con 5 _ rfl
        have b0 := blk9 HT.out.res 0 _ rfl
        have b1 := blk9 HT.out.res 1 _ rfl
        have b2 := blk9 HT.out.res 2 _ rfl
        have b3 := blk9 HT.out.res 3 _ rfl
        have b4 := blk9 HT.out.res 4 _ rfl
        have b5 := blk9 HT.out.res 5 _ rfl
        have z0 := frz9 HT.out.res 0
        have z1 := frz9 HT.out.res 1
        have z2 := frz9 HT.out.res 2
        have z3 := frz9 HT.out.res 3
        have z4 := frz9 HT.out.res 4
        have z5 := frz9 HT.out.res 5
        go_wp2
        refine bodyPost_ret (by simp [results, Tryz.results177, go_sem, *]; try rfl) rfl ?_
        rw [HPN.out]
        obtain ⟨e1, e2, e3⟩ := HT.out.endd _ _ _ _ _ _ _ rfl
        exact ⟨_, rfl, ⟨_, _, _, _, rfl, e1⟩, e2, e3⟩

set_option maxHeartbeats 1600000 in
set_option maxRecDepth 100000 in
theorem con_7 (N R M : Nat) (en : Int) (names : List ByteArray) (w : World) (l : List Tok) (h : Rd N R M en w l) (hn : NmS w M names) (hne : ∀ n ∈ names, n.data.toList ≠ []) (t1 : Tok) (q1 q2 : List Tok)
    (hs1 : skipP en conW l = .ok t1 q1) (hs2 : oneOfP en conWL q1 = .ok 7 q2) :
    Calls Tryz.prog 177 #[.pointer (some ⟨R, 0, none⟩)] w (PostR (conP en names l) (GC w.heap.size) N R M en (fun k => k = R) w) := by
  have HB : Hid (Rd N R M en w l) := h
  have HN : Hid (NmS w M names) := hn
  have HNE : Hid (∀ n ∈ names, n.data.toList ≠ []) := hne
  have HS1 : Hid (skipP en conW l = .ok t1 q1) := hs1
  have HS2 : Hid (oneOfP en conWL q1 = .ok 7 q2) := hs2
  have hRw : R < w.heap.size := by obtain ⟨_, _, hR, _⟩ := h; exact (Array.getElem?_eq_some_iff.1 hR).1
  obtain ⟨P, hP⟩ : ∃ P, conP en names l = P := ⟨_, rfl⟩
  have HP : Hid (P = ((nameP en names q2).bind fun a l => (nameP en names l).bind fun b l => (nameP en names l).bind fun c l => .ok ⟨7, [a, b, c], [], 0, [], []⟩ l).bind fun c l => (skipP en semiW l).bind fun _ l => .ok c l) := by
    show _ = _; rw [← hP]; unfold conP; rw [hs1]; show ((oneOfP en conWL q1).bind _) = _; rw [hs2]; show (bodyP en names 7 q2).bind _ = _; rw [(show bodyP en names 7 q2 = (nameP en names q2).bind fun a l => (nameP en names l).bind fun b l => (nameP en names l).bind fun c l => .ok ⟨7, [a, b, c], [], 0, [], []⟩ l by simp [bodyP])]
  rw [hP]
  clear h hP hn hne hs1 hs2
  go_enter Tryz.func177, Tryz.ntmps177
  go_wp2_with fail
  have HR0 := HB.out.below (below_alloc w (.cells #[.int .i64 0, .slice none 0 0, .slice none 0 0, .int .i64 0, .slice none 0 0, .slice none 0 0] 73))
  have HQ0 : (w.alloc (.cells #[.int .i64 0, .slice none 0 0, .slice none 0 0, .int .i64 0, .slice none 0 0, .slice none 0 0] 73)).heap[w.heap.size]? = some (.cells #[.int .i64 0, .slice none 0 0, .slice none 0 0, .int .i64 0, .slice none 0 0, .slice none 0 0] 73) := by show (w.heap.push _)[w.heap.size]? = _; simp
  have HBA := below_alloc w (.cells #[.int .i64 0, .slice none 0 0, .slice none 0 0, .int .i64 0, .slice none 0 0, .slice none 0 0] 73)
  refine (rskip_any N R M en conW solid_con _ l HR0).mono ?_
  intro e w1 hp
  rw [HS1.out] at hp
  obtain ⟨v, rfl, rfl, hrd1, hfr1⟩ := hp
  have HR1 : Hid (Rd N R M en w1 q1) := hrd1
  have HF1 : Hid (Fr (fun k => k = R) w w1) := (Fr.below HBA).trans hfr1
  have HQ1 : Hid (w1.heap[w.heap.size]? = some (.cells #[.int .i64 0, .slice none 0 0, .slice none 0 0, .int .i64 0, .slice none 0 0, .slice none 0 0] 73)) := (hfr1.block _ (by simp) (by omega)).trans HQ0
  clear HR0 HQ0 HBA hrd1 hfr1
  go_wp2_with fail
  refine (words_cons w1).mono ?_
  rintro e w2 ⟨sv, rfl, hsv, hb2⟩
  have HSV : Hid (SArg w2 sv conWL) := hsv
  obtain ⟨as_, cs_, rfl, _, _⟩ := hsv
  have HR2 : Hid (Rd N R M en w2 q1) := HR1.out.below hb2
  have HF2 : Hid (Fr (fun k => k = R) w w2) := HF1.out.trans (Fr.below hb2)
  have HQ2 : Hid (w2.heap[w.heap.size]? = some (.cells #[.int .i64 0, .slice none 0 0, .slice none 0 0, .int .i64 0, .slice none 0 0, .slice none 0 0] 73)) := (hb2.block _ (Array.getElem?_eq_some_iff.1 HQ1.out).1).trans HQ1.out
  clear hb2
  go_wp2_with fail
  refine (oneof_any N R M en conWL _ w2 q1 HR2.out HSV.out).mono ?_
  intro e w3 hp
  rw [HS2.out] at hp
  obtain ⟨v, rfl, rfl, hrd3, hfr3⟩ := hp
  have HS : Hid (ConS N R M en names w w3.heap.size (w3.alloc (.cells #[.int .i64 7, .slice none 0 0, .slice none 0 0, .int .i64 0, .slice none 0 0, .slice none 0 0] 73)) q2 (.slice none 0 0) (.slice none 0 0) (.slice none 0 0) (.slice none 0 0) ⟨7, [], [], 0, [], []⟩) := by
    have hbq := below_alloc w3 (.cells #[.int .i64 7, .slice none 0 0, .slice none 0 0, .int .i64 0, .slice none 0 0, .slice none 0 0] 73)
    have hlt : w.heap.size < w3.heap.size := Nat.lt_of_lt_of_le (Array.getElem?_eq_some_iff.1 HQ2.out).1 hfr3.size
    have hfr := (HF2.out.trans hfr3).trans (Fr.below hbq)
    exact ⟨hrd3.below hbq, hfr, HN.out.old (hfr.block M HN.out.lt HB.out.1.2.2), (hbq.block _ hlt).trans ((hfr3.block _ (Array.getElem?_eq_some_iff.1 HQ2.out).1 (by omega)).trans HQ2.out), by show (w3.heap.push _)[w3.heap.size]? = _; simp, hlt, hRw, HB.out.1.2.1, HN.out.lt, ConR.none _ _ _⟩
  clear hrd3 hfr3 HR1 HR2 HF1 HF2 HQ1 HQ2
  skip
  go_wp2_with fail
  refine (name_any N R M en names _ q2 HS.out.rd HS.out.nm HNE.out).mono ?_
  intro e w4 hp
  cases hs : nameP en names q2 with
  | bad x er =>
    rw [hs] at hp
    obtain ⟨rfl, hfr⟩ := hp
    have hfr2 := HS.out.fr.trans hfr
    have HPB : Hid (P = .bad x er) := by show _ = _; rw [HP.out, hs]; rfl
    clear hs hfr
    go_wp2
    exact ⟨rfl, by rw [HPB.out]; exact ⟨rfl, hfr2⟩⟩
  | ok a q3 =>
    rw [hs] at hp
    obtain ⟨v4, rfl, rfl, hrd, hfr⟩ := hp
    have HT : Hid (ConS N R M en names w w3.heap.size w4 q3 (.slice none 0 0) (.slice none 0 0) (.slice none 0 0) (.slice none 0 0) ⟨7, [], [], 0, [], []⟩) := HS.out.call hfr hrd
    clear HS
    have HS := HT
    clear HT
    have HPN : Hid (P = ((nameP en names q3).bind fun b l => (nameP en names l).bind fun c l => .ok ⟨7, [a, b, c], [], 0, [], []⟩ l).bind fun c l => (skipP en semiW l).bind fun _ l => .ok c l) := by show _ = _; rw [HP.out, hs]; rfl
    clear HP
    have HP := HPN
    clear HPN hs hrd hfr
    go_wp2_with fail
    refine (name_any N R M en names _ q3 HS.out.rd HS.out.nm HNE.out).mono ?_
    intro e w5 hp
    cases hs : nameP en names q3 with
    | bad x er =>
      rw [hs] at hp
      obtain ⟨rfl, hfr⟩ := hp
      have hfr2 := HS.out.fr.trans hfr
      have HPB : Hid (P = .bad x er) := by show _ = _; rw [HP.out, hs]; rfl
      clear hs hfr
      go_wp2
      exact ⟨rfl, by rw [HPB.out]; exact ⟨rfl, hfr2⟩⟩
    | ok b q4 =>
      rw [hs] at hp
      obtain ⟨v5, rfl, rfl, hrd, hfr⟩ := hp
      have HT : Hid (ConS N R M en names w w3.heap.size w5 q4 (.slice none 0 0) (.slice none 0 0) (.slice none 0 0) (.slice none 0 0) ⟨7, [], [], 0, [], []⟩) := HS.out.call hfr hrd
      clear HS
      have HS := HT
      clear HT
      have HPN : Hid (P = ((nameP en names q4).bind fun c l => .ok ⟨7, [a, b, c], [], 0, [], []⟩ l).bind fun c l => (skipP en semiW l).bind fun _ l => .ok c l) := by show _ = _; rw [HP.out, hs]; rfl
      clear HP
      have HP := HPN
      clear HPN hs hrd hfr
      go_wp2_with fail
      refine (name_any N R M en names _ q4 HS.out.rd HS.out.nm HNE.out).mono ?_
      intro e w6 hp
      cases hs : nameP en names q4 with
      | bad x er =>
        rw [hs] at hp
        obtain ⟨rfl, hfr⟩ := hp
        have hfr2 := HS.out.fr.trans hfr
        have HPB : Hid (P = .bad x er) := by show _ = _; rw [HP.out, hs]; rfl
        clear hs hfr
        go_wp2
        exact ⟨rfl, by rw [HPB.out]; exact ⟨rfl, hfr2⟩⟩
      | ok c q5 =>
        rw [hs] at hp
        obtain ⟨v6, rfl, rfl, hrd, hfr⟩ := hp
        have HT : Hid (ConS N R M en names w w3.heap.size w6 q5 (.slice none 0 0) (.slice none 0 0) (.slice none 0 0) (.slice none 0 0) ⟨7, [], [], 0, [], []⟩) := HS.out.call hfr hrd
        clear HS
        have HS := HT
        clear HT
        have HPN : Hid (P = (PR.ok ⟨7, [a, b, c], [], 0, [], []⟩ q5).bind fun c l => (skipP en semiW l).bind fun _ l => .ok c l) := by show _ = _; rw [HP.out, hs]; rfl
        clear HP
        have HP := HPN
        clear HPN hs hrd hfr
        have r1 := blk9 HS.out.con 1 _ rfl
        have z1 := frz9 HS.out.con 1
        have hCl : w3.heap.size < w6.heap.size := (Array.getElem?_eq_some_iff.1 HS.out.con).1
        have HT : Hid (ConS N R M en names w w3.heap.size ((w6.setCell ⟨w3.heap.size, 1, none⟩ (.slice (some ⟨w6.heap.size, 0, none⟩) 3 3)).alloc (.cells #[.int .i64 a, .int .i64 b, .int .i64 c] 3)) q5 (.slice (some ⟨w6.heap.size, 0, none⟩) 3 3) (.slice none 0 0) (.slice none 0 0) (.slice none 0 0) ⟨7, [a, b, c], [], 0, [], []⟩) := HS.out.varsLit [a, b, c] (by simp)
        clear HS
        have HS := HT
        clear HT
        have HPN : Hid (P = (skipP en semiW q5).bind fun _ l => .ok ⟨7, [a, b, c], [], 0, [], []⟩ l) := by show _ = _; rw [HP.out]; rfl
        clear HP
        have HP := HPN
        clear HPN
        go_wp2_with fail
        refine (rskip_any N R M en semiW solid_semi _ q5 HS.out.rd).mono ?_
        intro e w7 hp
        cases hs : skipP en semiW q5 with
        | bad x er =>
          rw [hs] at hp
          obtain ⟨rfl, hfr⟩ := hp
          have hfr2 := HS.out.fr.trans hfr
          have HPB : Hid (P = .bad x er) := by show _ = _; rw [HP.out, hs]; rfl
          clear hs hfr
          go_wp2
          exact ⟨rfl, by rw [HPB.out]; exact ⟨rfl, hfr2⟩⟩
        | ok t9 q9 =>
          rw [hs] at hp
          obtain ⟨v, rfl, rfl, hrd, hfr⟩ := hp
          have HT : Hid (ConS N R M en names w w3.heap.size w7 q9 (.slice (some ⟨w6.heap.size, 0, none⟩) 3 3) (.slice none 0 0) (.slice none 0 0) (.slice none 0 0) ⟨7, [a, b, c], [], 0, [], []⟩) := HS.out.call hfr hrd
          have HPN : Hid (P = .ok ⟨7, [a, b, c], [], 0, [], []⟩ q9) := by show _ = _; rw [HP.out, hs]; rfl
          clear HP HS hs hrd hfr
          have a0 := blk9 HT.out.con 0 _ rfl
          have a1 := blk9 HT.out.con 1 _ rfl
          have a2 := blk9 HT.out.con 2 _ rfl
          have a3 := blk9 HT.out.con 3 _ rfl
          have a4 := blk9 HT.out.con 4 _ rfl
          have a5 := blk9 HT.out.con 5 _ rfl
          have b0 := blk9 HT.out.res 0 _ rfl
          have b1 := blk9 HT.out.res 1 _ rfl
          have b2 := blk9 HT.out.res 2 _ rfl
          have b3 := blk9 HT.out.res 3 _ rfl
          have b4 := blk9 HT.out.res 4 _ rfl
          have b5 := blk9 HT.out.res 5 _ rfl
          have z0 := frz9 HT.out.res 0
          have z1 := frz9 HT.out.res 1
          have z2 := frz9 HT.out.res 2
          have z3 := frz9 HT.out.res 3
          have z4 := frz9 HT.out.res 4
          have z5 := frz9 HT.out.res 5
          go_wp2
          refine bodyPost_ret (by simp [results, Tryz.results177, go_sem, *]; try rfl) rfl ?_
          rw [HPN.out]
          obtain ⟨e1, e2, e3⟩ := HT.out.endd _ _ _ _ _ _ _ rfl
          exact ⟨_, rfl, ⟨_, _, _, _, rfl, e1⟩, e2, e3⟩

set_option maxHeartbeats 1600000 in
set_option maxRecDepth 100000 in
theorem con_9 (N R M : Nat) (en : Int) (names : List ByteArray) (w : World) (l : List Tok) (h : Rd N R M en w l) (hn : NmS w M names) (hne : ∀ n ∈ names, n.data.toList ≠ []) (t1 : Tok) (q1 q2 : List Tok)
    (hs1 : skipP en conW l = .ok t1 q1) (hs2 : oneOfP en conWL q1 = .ok 9 q2) :
    Calls Tryz.prog 177 #[.pointer (some ⟨R, 0, none⟩)] w (PostR (conP en names l) (GC w.heap.size) N R M en (fun k => k = R) w) := by
  have HB : Hid (Rd N R M en w l) := h
  have HN : Hid (NmS w M names) := hn
  have HNE : Hid (∀ n ∈ names, n.data.toList ≠ []) := hne
  have HS1 : Hid (skipP en conW l = .ok t1 q1) := hs1
  have HS2 : Hid (oneOfP en conWL q1 = .ok 9 q2) := hs2
  have hRw : R < w.heap.size := by obtain ⟨_, _, hR, _⟩ := h; exact (Array.getElem?_eq_some_iff.1 hR).1
  obtain ⟨P, hP⟩ : ∃ P, conP en names l = P := ⟨_, rfl⟩
  have HP : Hid (P = ((readP en (litP en names) q2).bind fun ls l => .ok ⟨9, [], [], 0, [], ls⟩ l).bind fun c l => (skipP en semiW l).bind fun _ l => .ok c l) := by
    show _ = _; rw [← hP]; unfold conP; rw [hs1]; show ((oneOfP en conWL q1).bind _) = _; rw [hs2]; show (bodyP en names 9 q2).bind _ = _; rw [(show bodyP en names 9 q2 = (readP en (litP en names) q2).bind fun ls l => .ok ⟨9, [], [], 0, [], ls⟩ l by simp [bodyP])]
  rw [hP]
  clear h hP hn hne hs1 hs2
  go_enter Tryz.func177, Tryz.ntmps177
  go_wp2_with fail
  have HR0 := HB.out.below (below_alloc w (.cells #[.int .i64 0, .slice none 0 0, .slice none 0 0, .int .i64 0, .slice none 0 0, .slice none 0 0] 73))
  have HQ0 : (w.alloc (.cells #[.int .i64 0, .slice none 0 0, .slice none 0 0, .int .i64 0, .slice none 0 0, .slice none 0 0] 73)).heap[w.heap.size]? = some (.cells #[.int .i64 0, .slice none 0 0, .slice none 0 0, .int .i64 0, .slice none 0 0, .slice none 0 0] 73) := by show (w.heap.push _)[w.heap.size]? = _; simp
  have HBA := below_alloc w (.cells #[.int .i64 0, .slice none 0 0, .slice none 0 0, .int .i64 0, .slice none 0 0, .slice none 0 0] 73)
  refine (rskip_any N R M en conW solid_con _ l HR0).mono ?_
  intro e w1 hp
  rw [HS1.out] at hp
  obtain ⟨v, rfl, rfl, hrd1, hfr1⟩ := hp
  have HR1 : Hid (Rd N R M en w1 q1) := hrd1
  have HF1 : Hid (Fr (fun k => k = R) w w1) := (Fr.below HBA).trans hfr1
  have HQ1 : Hid (w1.heap[w.heap.size]? = some (.cells #[.int .i64 0, .slice none 0 0, .slice none 0 0, .int .i64 0, .slice none 0 0, .slice none 0 0] 73)) := (hfr1.block _ (by simp) (by omega)).trans HQ0
  clear HR0 HQ0 HBA hrd1 hfr1
  go_wp2_with fail
  refine (words_cons w1).mono ?_
  rintro e w2 ⟨sv, rfl, hsv, hb2⟩
  have HSV : Hid (SArg w2 sv conWL) := hsv
  obtain ⟨as_, cs_, rfl, _, _⟩ := hsv
  have HR2 : Hid (Rd N R M en w2 q1) := HR1.out.below hb2
  have HF2 : Hid (Fr (fun k => k = R) w w2) := HF1.out.trans (Fr.below hb2)
  have HQ2 : Hid (w2.heap[w.heap.size]? = some (.cells #[.int .i64 0, .slice none 0 0, .slice none 0 0, .int .i64 0, .slice none 0 0, .slice none 0 0] 73)) := (hb2.block _ (Array.getElem?_eq_some_iff.1 HQ1.out).1).trans HQ1.out
  clear hb2
  go_wp2_with fail
  refine (oneof_any N R M en conWL _ w2 q1 HR2.out HSV.out).mono ?_
  intro e w3 hp
  rw [HS2.out] at hp
  obtain ⟨v, rfl, rfl, hrd3, hfr3⟩ := hp
  have HS : Hid (ConS N R M en names w w3.heap.size (w3.alloc (.cells #[.int .i64 9, .slice none 0 0, .slice none 0 0, .int .i64 0, .slice none 0 0, .slice none 0 0] 73)) q2 (.slice none 0 0) (.slice none 0 0) (.slice none 0 0) (.slice none 0 0) ⟨9, [], [], 0, [], []⟩) := by
    have hbq := below_alloc w3 (.cells #[.int .i64 9, .slice none 0 0, .slice none 0 0, .int .i64 0, .slice none 0 0, .slice none 0 0] 73)
    have hlt : w.heap.size < w3.heap.size := Nat.lt_of_lt_of_le (Array.getElem?_eq_some_iff.1 HQ2.out).1 hfr3.size
    have hfr := (HF2.out.trans hfr3).trans (Fr.below hbq)
    exact ⟨hrd3.below hbq, hfr, HN.out.old (hfr.block M HN.out.lt HB.out.1.2.2), (hbq.block _ hlt).trans ((hfr3.block _ (Array.getElem?_eq_some_iff.1 HQ2.out).1 (by omega)).trans HQ2.out), by show (w3.heap.push _)[w3.heap.size]? = _; simp, hlt, hRw, HB.out.1.2.1, HN.out.lt, ConR.none _ _ _⟩
  clear hrd3 hfr3 HR1 HR2 HF1 HF2 HQ1 HQ2
  skip
  go_wp2_with fail
  refine (lits_read N R M en names _ q2 HS.out.rd HS.out.nm HNE.out).mono ?_
  intro e w4 hp
  cases hs : readP en (litP en names) q2 with
  | bad x er =>
    rw [hs] at hp
    obtain ⟨rfl, hfr⟩ := hp
    have hfr2 := HS.out.fr.trans hfr
    have HPB : Hid (P = .bad x er) := by show _ = _; rw [HP.out, hs]; rfl
    clear hs hfr
    go_wp2
    exact ⟨rfl, by rw [HPB.out]; exact ⟨rfl, hfr2⟩⟩
  | ok ls q3 =>
    rw [hs] at hp
    obtain ⟨v4, rfl, ho, hrd, hfr⟩ := hp
    have HO : Hid (w4.ownsRow w.heap.size 88 3 v4 ls.length (ls.flatMap litC)) := own_mono9 ho HS.out.base
    obtain ⟨a4, c4, hv⟩ := own_form ho
    subst hv
    clear ho
    have HT : Hid (ConS N R M en names w w3.heap.size w4 q3 (.slice none 0 0) (.slice none 0 0) (.slice none 0 0) (.slice none 0 0) ⟨9, [], [], 0, [], []⟩) := HS.out.call hfr hrd
    clear HS
    have HS := HT
    clear HT
    have HPN : Hid (P = (PR.ok ⟨9, [], [], 0, [], ls⟩ q3).bind fun c l => (skipP en semiW l).bind fun _ l => .ok c l) := by show _ = _; rw [HP.out, hs]; rfl
    clear HP
    have HP := HPN
    clear HPN hs hrd hfr
    have r5 := blk9 HS.out.con 5 _ rfl
    have z5 := frz9 HS.out.con 5
    have HT : Hid (ConS N R M en names w w3.heap.size (w4.setCell ⟨w3.heap.size, 5, none⟩ (.slice a4 ls.length c4)) q3 (.slice none 0 0) (.slice none 0 0) (.slice none 0 0) (.slice a4 ls.length c4) ⟨9, [], [], 0, [], ls⟩) := HS.out.lits HO.out
    clear HO
    clear HS
    have HS := HT
    clear HT
    have HPN : Hid (P = (skipP en semiW q3).bind fun _ l => .ok ⟨9, [], [], 0, [], ls⟩ l) := by show _ = _; rw [HP.out]; rfl
    clear HP
    have HP := HPN
    clear HPN
    go_wp2_with fail
    refine (rskip_any N R M en semiW solid_semi _ q3 HS.out.rd).mono ?_
    intro e w5 hp
    cases hs : skipP en semiW q3 with
    | bad x er =>
      rw [hs] at hp
      obtain ⟨rfl, hfr⟩ := hp
      have hfr2 := HS.out.fr.trans hfr
      have HPB : Hid (P = .bad x er) := by show _ = _; rw [HP.out, hs]; rfl
      clear hs hfr
      go_wp2
      exact ⟨rfl, by rw [HPB.out]; exact ⟨rfl, hfr2⟩⟩
    | ok t9 q9 =>
      rw [hs] at hp
      obtain ⟨v, rfl, rfl, hrd, hfr⟩ := hp
      have HT : Hid (ConS N R M en names w w3.heap.size w5 q9 (.slice none 0 0) (.slice none 0 0) (.slice none 0 0) (.slice a4 ls.length c4) ⟨9, [], [], 0, [], ls⟩) := HS.out.call hfr hrd
      have HPN : Hid (P = .ok ⟨9, [], [], 0, [], ls⟩ q9) := by show _ = _; rw [HP.out, hs]; rfl
      clear HP HS hs hrd hfr
      have a0 := blk9 HT.out.con 0 _ rfl
      have a1 := blk9 HT.out.con 1 _ rfl
      have a2 := blk9 HT.out.con 2 _ rfl
      have a3 := blk9 HT.out.con 3 _ rfl
      have a4 := blk9 HT.out.con 4 _ rfl
      have a5 := blk9 HT.out.con 5 _ rfl
      have b0 := blk9 HT.out.res 0 _ rfl
      have b1 := blk9 HT.out.res 1 _ rfl
      have b2 := blk9 HT.out.res 2 _ rfl
      have b3 := blk9 HT.out.res 3 _ rfl
      have b4 := blk9 HT.out.res 4 _ rfl
      have b5 := blk9 HT.out.res 5 _ rfl
      have z0 := frz9 HT.out.res 0
      have z1 := frz9 HT.out.res 1
      have z2 := frz9 HT.out.res 2
      have z3 := frz9 HT.out.res 3
      have z4 := frz9 HT.out.res 4
      have z5 := frz9 HT.out.res 5
      go_wp2
      refine bodyPost_ret (by simp [results, Tryz.results177, go_sem, *]; try rfl) rfl ?_
      rw [HPN.out]
      obtain ⟨e1, e2, e3⟩ := HT.out.endd _ _ _ _ _ _ _ rfl
      exact ⟨_, rfl, ⟨_, _, _, _, rfl, e1⟩, e2, e3⟩

set_option maxHeartbeats 1600000 in
set_option maxRecDepth 100000 in
theorem con_10 (N R M : Nat) (en : Int) (names : List ByteArray) (w : World) (l : List Tok) (h : Rd N R M en w l) (hn : NmS w M names) (hne : ∀ n ∈ names, n.data.toList ≠ []) (t1 : Tok) (q1 q2 : List Tok)
    (hs1 : skipP en conW l = .ok t1 q1) (hs2 : oneOfP en conWL q1 = .ok 10 q2) :
    Calls Tryz.prog 177 #[.pointer (some ⟨R, 0, none⟩)] w (PostR (conP en names l) (GC w.heap.size) N R M en (fun k => k = R) w) := by
  have HB : Hid (Rd N R M en w l) := h
  have HN : Hid (NmS w M names) := hn
  have HNE : Hid (∀ n ∈ names, n.data.toList ≠ []) := hne
  have HS1 : Hid (skipP en conW l = .ok t1 q1) := hs1
  have HS2 : Hid (oneOfP en conWL q1 = .ok 10 q2) := hs2
  have hRw : R < w.heap.size := by obtain ⟨_, _, hR, _⟩ := h; exact (Array.getElem?_eq_some_iff.1 hR).1
  obtain ⟨P, hP⟩ : ∃ P, conP en names l = P := ⟨_, rfl⟩
  have HP : Hid (P = ((nameP en names q2).bind fun a l => (litP en names l).bind fun t l => .ok ⟨10, [a], [], 0, [], [t]⟩ l).bind fun c l => (skipP en semiW l).bind fun _ l => .ok c l) := by
    show _ = _; rw [← hP]; unfold conP; rw [hs1]; show ((oneOfP en conWL q1).bind _) = _; rw [hs2]; show (bodyP en names 10 q2).bind _ = _; rw [(show bodyP en names 10 q2 = (nameP en names q2).bind fun a l => (litP en names l).bind fun t l => .ok ⟨10, [a], [], 0, [], [t]⟩ l by simp [bodyP])]
  rw [hP]
  clear h hP hn hne hs1 hs2
  go_enter Tryz.func177, Tryz.ntmps177
  go_wp2_with fail
  have HR0 := HB.out.below (below_alloc w (.cells #[.int .i64 0, .slice none 0 0, .slice none 0 0, .int .i64 0, .slice none 0 0, .slice none 0 0] 73))
  have HQ0 : (w.alloc (.cells #[.int .i64 0, .slice none 0 0, .slice none 0 0, .int .i64 0, .slice none 0 0, .slice none 0 0] 73)).heap[w.heap.size]? = some (.cells #[.int .i64 0, .slice none 0 0, .slice none 0 0, .int .i64 0, .slice none 0 0, .slice none 0 0] 73) := by show (w.heap.push _)[w.heap.size]? = _; simp
  have HBA := below_alloc w (.cells #[.int .i64 0, .slice none 0 0, .slice none 0 0, .int .i64 0, .slice none 0 0, .slice none 0 0] 73)
  refine (rskip_any N R M en conW solid_con _ l HR0).mono ?_
  intro e w1 hp
  rw [HS1.out] at hp
  obtain ⟨v, rfl, rfl, hrd1, hfr1⟩ := hp
  have HR1 : Hid (Rd N R M en w1 q1) := hrd1
  have HF1 : Hid (Fr (fun k => k = R) w w1) := (Fr.below HBA).trans hfr1
  have HQ1 : Hid (w1.heap[w.heap.size]? = some (.cells #[.int .i64 0, .slice none 0 0, .slice none 0 0, .int .i64 0, .slice none 0 0, .slice none 0 0] 73)) := (hfr1.block _ (by simp) (by omega)).trans HQ0
  clear HR0 HQ0 HBA hrd1 hfr1
  go_wp2_with fail
  refine (words_cons w1).mono ?_
  rintro e w2 ⟨sv, rfl, hsv, hb2⟩
  have HSV : Hid (SArg w2 sv conWL) := hsv
  obtain ⟨as_, cs_, rfl, _, _⟩ := hsv
  have HR2 : Hid (Rd N R M en w2 q1) := HR1.out.below hb2
  have HF2 : Hid (Fr (fun k => k = R) w w2) := HF1.out.trans (Fr.below hb2)
  have HQ2 : Hid (w2.heap[w.heap.size]? = some (.cells #[.int .i64 0, .slice none 0 0, .slice none 0 0, .int .i64 0, .slice none 0 0, .slice none 0 0] 73)) := (hb2.block _ (Array.getElem?_eq_some_iff.1 HQ1.out).1).trans HQ1.out
  clear hb2
  go_wp2_with fail
  refine (oneof_any N R M en conWL _ w2 q1 HR2.out HSV.out).mono ?_
  intro e w3 hp
  rw [HS2.out] at hp
  obtain ⟨v, rfl, rfl, hrd3, hfr3⟩ := hp
  have HS : Hid (ConS N R M en names w w3.heap.size (w3.alloc (.cells #[.int .i64 10, .slice none 0 0, .slice none 0 0, .int .i64 0, .slice none 0 0, .slice none 0 0] 73)) q2 (.slice none 0 0) (.slice none 0 0) (.slice none 0 0) (.slice none 0 0) ⟨10, [], [], 0, [], []⟩) := by
    have hbq := below_alloc w3 (.cells #[.int .i64 10, .slice none 0 0, .slice none 0 0, .int .i64 0, .slice none 0 0, .slice none 0 0] 73)
    have hlt : w.heap.size < w3.heap.size := Nat.lt_of_lt_of_le (Array.getElem?_eq_some_iff.1 HQ2.out).1 hfr3.size
    have hfr := (HF2.out.trans hfr3).trans (Fr.below hbq)
    exact ⟨hrd3.below hbq, hfr, HN.out.old (hfr.block M HN.out.lt HB.out.1.2.2), (hbq.block _ hlt).trans ((hfr3.block _ (Array.getElem?_eq_some_iff.1 HQ2.out).1 (by omega)).trans HQ2.out), by show (w3.heap.push _)[w3.heap.size]? = _; simp, hlt, hRw, HB.out.1.2.1, HN.out.lt, ConR.none _ _ _⟩
  clear hrd3 hfr3 HR1 HR2 HF1 HF2 HQ1 HQ2
  skip
  go_wp2_with fail
  refine (name_any N R M en names _ q2 HS.out.rd HS.out.nm HNE.out).mono ?_
  intro e w4 hp
  cases hs : nameP en names q2 with
  | bad x er =>
    rw [hs] at hp
    obtain ⟨rfl, hfr⟩ := hp
    have hfr2 := HS.out.fr.trans hfr
    have HPB : Hid (P = .bad x er) := by show _ = _; rw [HP.out, hs]; rfl
    clear hs hfr
    go_wp2
    exact ⟨rfl, by rw [HPB.out]; exact ⟨rfl, hfr2⟩⟩
  | ok a q3 =>
    rw [hs] at hp
    obtain ⟨v4, rfl, rfl, hrd, hfr⟩ := hp
    have HT : Hid (ConS N R M en names w w3.heap.size w4 q3 (.slice none 0 0) (.slice none 0 0) (.slice none 0 0) (.slice none 0 0) ⟨10, [], [], 0, [], []⟩) := HS.out.call hfr hrd
    clear HS
    have HS := HT
    clear HT
    have HPN : Hid (P = ((litP en names q3).bind fun t l => .ok ⟨10, [a], [], 0, [], [t]⟩ l).bind fun c l => (skipP en semiW l).bind fun _ l => .ok c l) := by show _ = _; rw [HP.out, hs]; rfl
    clear HP
    have HP := HPN
    clear HPN hs hrd hfr
    have r1 := blk9 HS.out.con 1 _ rfl
    have z1 := frz9 HS.out.con 1
    have hCl : w3.heap.size < w4.heap.size := (Array.getElem?_eq_some_iff.1 HS.out.con).1
    have HT : Hid (ConS N R M en names w w3.heap.size ((w4.setCell ⟨w3.heap.size, 1, none⟩ (.slice (some ⟨w4.heap.size, 0, none⟩) 1 1)).alloc (.cells #[.int .i64 a] 3)) q3 (.slice (some ⟨w4.heap.size, 0, none⟩) 1 1) (.slice none 0 0) (.slice none 0 0) (.slice none 0 0) ⟨10, [a], [], 0, [], []⟩) := HS.out.varsLit [a] (by simp)
    clear HS
    have HS := HT
    clear HT
    go_wp2_with fail
    refine (rlit_any N R M en names _ q3 HS.out.rd HS.out.nm HNE.out).mono ?_
    intro e w5 hp
    cases hs : litP en names q3 with
    | bad x er =>
      rw [hs] at hp
      obtain ⟨rfl, hfr⟩ := hp
      have hfr2 := HS.out.fr.trans hfr
      have HPB : Hid (P = .bad x er) := by show _ = _; rw [HP.out, hs]; rfl
      clear hs hfr
      go_wp2
      exact ⟨rfl, by rw [HPB.out]; exact ⟨rfl, hfr2⟩⟩
    | ok t q4 =>
      rw [hs] at hp
      obtain ⟨v5, rfl, rfl, hrd, hfr⟩ := hp
      unfold litA
      have HT : Hid (ConS N R M en names w w3.heap.size w5 q4 (.slice (some ⟨w4.heap.size, 0, none⟩) 1 1) (.slice none 0 0) (.slice none 0 0) (.slice none 0 0) ⟨10, [a], [], 0, [], []⟩) := HS.out.call hfr hrd
      clear HS
      have HS := HT
      clear HT
      have HPN : Hid (P = (PR.ok ⟨10, [a], [], 0, [], [t]⟩ q4).bind fun c l => (skipP en semiW l).bind fun _ l => .ok c l) := by show _ = _; rw [HP.out, hs]; rfl
      clear HP
      have HP := HPN
      clear HPN hs hrd hfr
      have r5 := blk9 HS.out.con 5 _ rfl
      have z5 := frz9 HS.out.con 5
      have hCl5 : w3.heap.size < w5.heap.size := (Array.getElem?_eq_some_iff.1 HS.out.con).1
      have HT : Hid (ConS N R M en names w w3.heap.size ((w5.setCell ⟨w3.heap.size, 5, none⟩ (.slice (some ⟨w5.heap.size, 0, none⟩) 1 1)).alloc (.cells #[.int .i64 t.var, .int .i64 t.op, .int .i64 t.n] 88)) q4 (.slice (some ⟨w4.heap.size, 0, none⟩) 1 1) (.slice none 0 0) (.slice none 0 0) (.slice (some ⟨w5.heap.size, 0, none⟩) 1 1) ⟨10, [a], [], 0, [], [t]⟩) := HS.out.litLit t
      clear HS
      have HS := HT
      clear HT
      have HPN : Hid (P = (skipP en semiW q4).bind fun _ l => .ok ⟨10, [a], [], 0, [], [t]⟩ l) := by show _ = _; rw [HP.out]; rfl
      clear HP
      have HP := HPN
      clear HPN
      go_wp2_with fail
      refine (rskip_any N R M en semiW solid_semi _ q4 HS.out.rd).mono ?_
      intro e w6 hp
      cases hs : skipP en semiW q4 with
      | bad x er =>
        rw [hs] at hp
        obtain ⟨rfl, hfr⟩ := hp
        have hfr2 := HS.out.fr.trans hfr
        have HPB : Hid (P = .bad x er) := by show _ = _; rw [HP.out, hs]; rfl
        clear hs hfr
        go_wp2
        exact ⟨rfl, by rw [HPB.out]; exact ⟨rfl, hfr2⟩⟩
      | ok t9 q9 =>
        rw [hs] at hp
        obtain ⟨v, rfl, rfl, hrd, hfr⟩ := hp
        have HT : Hid (ConS N R M en names w w3.heap.size w6 q9 (.slice (some ⟨w4.heap.size, 0, none⟩) 1 1) (.slice none 0 0) (.slice none 0 0) (.slice (some ⟨w5.heap.size, 0, none⟩) 1 1) ⟨10, [a], [], 0, [], [t]⟩) := HS.out.call hfr hrd
        have HPN : Hid (P = .ok ⟨10, [a], [], 0, [], [t]⟩ q9) := by show _ = _; rw [HP.out, hs]; rfl
        clear HP HS hs hrd hfr
        have a0 := blk9 HT.out.con 0 _ rfl
        have a1 := blk9 HT.out.con 1 _ rfl
        have a2 := blk9 HT.out.con 2 _ rfl
        have a3 := blk9 HT.out.con 3 _ rfl
        have a4 := blk9 HT.out.con 4 _ rfl
        have a5 := blk9 HT.out.con 5 _ rfl
        have b0 := blk9 HT.out.res 0 _ rfl
        have b1 := blk9 HT.out.res 1 _ rfl
        have b2 := blk9 HT.out.res 2 _ rfl
        have b3 := blk9 HT.out.res 3 _ rfl
        have b4 := blk9 HT.out.res 4 _ rfl
        have b5 := blk9 HT.out.res 5 _ rfl
        have z0 := frz9 HT.out.res 0
        have z1 := frz9 HT.out.res 1
        have z2 := frz9 HT.out.res 2
        have z3 := frz9 HT.out.res 3
        have z4 := frz9 HT.out.res 4
        have z5 := frz9 HT.out.res 5
        go_wp2
        refine bodyPost_ret (by simp [results, Tryz.results177, go_sem, *]; try rfl) rfl ?_
        rw [HPN.out]
        obtain ⟨e1, e2, e3⟩ := HT.out.endd _ _ _ _ _ _ _ rfl
        exact ⟨_, rfl, ⟨_, _, _, _, rfl, e1⟩, e2, e3⟩
end Go.Proofs.YtdjbejlbmaiocagGreatDoor
