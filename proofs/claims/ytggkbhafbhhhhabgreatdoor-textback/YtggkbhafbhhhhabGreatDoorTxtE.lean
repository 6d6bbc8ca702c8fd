/-
  The map of names; WALK: package text: the reader: name.
-/
import Derived.Test.YtggkbhafbhhhhabGreatDoorTxtC
import Derived.Maps.OwnSet
import Derived.Maps.Views
import Derived.StringKeys
import Derived.Deep.RegionHeld3
namespace Go.Proofs.YtggkbhafbhhhhabGreatDoor
open Go.RowKit Go.Maps

def nmD : List ByteArray → DataW Unit := fun l => (l.zipIdx).foldl (fun D p => D.put (.string p.1.data.toList) (.lit (.int .i64 (p.2 : Int)))) (.map [])
theorem nmD_next (l : List ByteArray) (n : ByteArray) : nmD (l ++ [n]) = (nmD l).put (.string n.data.toList) (.lit (.int .i64 (l.length : Int))) := by
  unfold nmD
  rw [List.zipIdx_append, List.foldl_append]
  simp
theorem rev_ind {α : Type} {P : List α → Prop} (h0 : P []) (h1 : ∀ l a, P l → P (l ++ [a])) : ∀ l, P l := by
  intro l
  rw [← List.reverse_reverse l]
  generalize l.reverse = m
  induction m with
  | nil => exact h0
  | cons a m ih => rw [List.reverse_cons]; exact h1 _ _ ih
theorem nmD_map (l : List ByteArray) : IsMap (nmD l) := by
  induction l using rev_ind with
  | h0 => exact isMap_empty
  | h1 l n ih => rw [nmD_next]; exact ih.put _ _
theorem nmD_look (s : ByteArray) (l : List ByteArray) : Maps.has (nmD l) (.string s.data.toList) = (nameAt l s).2 ∧ (nmD l).atKey (.string s.data.toList) (.lit (.int .i64 0)) = .lit (.int .i64 (nameAt l s).1) := by
  induction l using rev_ind with
  | h0 => exact ⟨rfl, rfl⟩
  | h1 l n ih =>
    rw [nmD_next, nameAt_next]
    by_cases h : n.data.toList = s.data.toList
    · rw [if_pos h, h]
      exact ⟨has_put_same (k := .string s.data.toList) (nmD_map l) (show WideAt.IsKeyLit (.string s.data.toList) from trivial) _, atKey_put_same (k := .string s.data.toList) (nmD_map l) (show WideAt.IsKeyLit (.string s.data.toList) from trivial) _ _⟩
    · rw [if_neg h, has_put_other (fun e => h (Lit.string.inj e).symm), atKey_put_other (fun e => h (Lit.string.inj e).symm)]
      exact ih
/-- The names that have come, in their map. -/
def NmS (w : World) (M : Nat) (l : List ByteArray) : Prop := w.ownsMap Tryz.prog 9 (plainElem Tryz.prog 3) M l.length (nmD l)
theorem NmS.old {w w' : World} {M : Nat} {l : List ByteArray} (h : NmS w M l) (hb : w'.heap[M]? = w.heap[M]?) : NmS w' M l := by
  obtain ⟨es, clock, hm, F, hs, hd⟩ := h
  exact ⟨es, clock, hb.trans hm, F, hs, hd⟩
theorem NmS.lt {w : World} {M : Nat} {l : List ByteArray} (h : NmS w M l) : M < w.heap.size := by
  obtain ⟨es, clock, hm, _⟩ := h
  exact (Array.getElem?_eq_some_iff.1 hm).1
theorem Tryz.underNames : Tryz.prog.underlying 86 = some (.map 9 3) := by kernel_rfl
theorem Tryz.strKeyed : Keyed Tryz.prog 9 := string_keyed Tryz.underlying9
theorem Tryz.intZero (w : World) : (zeroValue 3).run Tryz.prog w = .ok (.int .i64 0) w := by kernel_rfl
theorem look_names (w : World) (M : Nat) (l : List ByteArray) (s : ByteArray) (hs : s.size ≤ maxLen) (h : NmS w M l) :
    Sem.run Tryz.prog (Instr.lookup 86 (.map (some M)) (.string s) true) w = .ok (.tuple #[.int .i64 (nameAt l s).1, .bool (nameAt l s).2]) w := by
  obtain ⟨v, ps, hrun, hv⟩ := h.look_ok Tryz.strKeyed Tryz.underNames (Tryz.intZero w) (plainElem_int (H := Unit) Tryz.underlying3 (by decide)) (WideMaps.keyOf_string_mk Tryz.underlying9 hs)
  obtain ⟨a, rfl, ha, _⟩ := plainElem_int_inv Tryz.underlying3 hv
  obtain ⟨h1, h2⟩ := nmD_look s l
  rw [h2] at ha
  have h3 := congrArg Prod.fst ha
  have h4 : (nameAt l s).1 = a := by cases h3; rfl
  rw [hrun, h1, h4]

theorem held_call9 {w2 Y w3 : World} {A : Prop} (h : Below w2.heap.size w2 Y ∧ A) (hb : Below Y.heap.size Y w3) : Below w2.heap.size w2 w3 := h.1.trans (hb.mono h.1.size)
set_option maxHeartbeats 1600000 in
set_option maxRecDepth 100000 in
theorem name_any (N R M : Nat) (en : Int) (names : List ByteArray) (w : World) (l : List Tok) (h : Rd N R M en w l) (hn : NmS w M names) (hne : ∀ n ∈ names, n.data.toList ≠ []) :
    Calls Tryz.prog 101 #[.pointer (some ⟨R, 0, none⟩)] w (PostR (nameP en names l) (fun i v _ => v = .int .i64 i) N R M en (fun k => k = R) w) := by
  have hf2 := tokF2 (headT en l)
  have HB : Hid (Rd N R M en w l) := h
  have HSZ : Hid ((headT en l).text.size ≤ maxLen) := head_size h
  have HML : Hid (M < w.heap.size) := hn.lt
  have HNM : Hid (NmS w M names) := hn
  obtain ⟨ri, hri⟩ : ∃ ri, (nameAt names (headT en l).text).1 = ri := ⟨_, rfl⟩
  obtain ⟨rb, hrb⟩ : ∃ rb, (nameAt names (headT en l).text).2 = rb := ⟨_, rfl⟩
  obtain ⟨nb, hnb⟩ : ∃ nb, nameB (headT en l).text = nb := ⟨_, rfl⟩
  have HNB : Hid (nameB (headT en l).text = nb) := hnb
  have HLK : Hid (∀ Y : World, Below w.heap.size w Y → Sem.run Tryz.prog (Instr.lookup 86 (.map (some M)) (.string (headT en l).text) true) Y = .ok (.tuple #[.int .i64 ri, .bool rb]) Y) := by
    intro Y hY
    rw [look_names Y M names _ HSZ.out (HNM.out.old (hY.block M HML.out)), hri, hrb]
  have HL : Hid (rb = true → l ≠ []) := by
    intro hb hl
    subst hl
    have h2 : (nameAt names ByteArray.empty).2 = rb := hrb
    rw [nameAt_empty names hne, hb] at h2
    cases h2
  obtain ⟨P, hP⟩ : ∃ P, nameP en names l = P := ⟨_, rfl⟩
  have HP : Hid (P = if rb then (passP en true l).bind fun _ r => .ok ri r else if nb then .bad (headT en l).place 5 else .bad (headT en l).place 1) := by
    show _ = _; rw [← hP]; unfold nameP; rw [hri, hrb, hnb]
  rw [hP]
  obtain ⟨_, v, hR, _⟩ := h
  have c2 : w.cell? ⟨R, 2, none⟩ = some (.map (some M)) := by rw [Lib.cell_of_heap hR]; rfl
  have hRl : R < w.heap.size := (Array.getElem?_eq_some_iff.1 hR).1
  have HAH : Hid (∀ Y : World, Below w.heap.size w Y → Calls Tryz.prog 70 #[.pointer (some ⟨R, 0, none⟩)] Y fun e w' => e = .returned (.agg #[.int .i64 (headT en l).kind, .int .i64 (headT en l).place, .string (headT en l).text]) ∧ Below Y.heap.size Y w') := fun Y hY => ahead_any N R M en Y l (HB.out.below hY)
  have hlk0 := HLK.out _ (Below.refl _ _).drew
  clear hri hrb hnb hP hR hn hne
  go_enter Tryz.func101, Tryz.ntmps101
  go_wp2_with fail
  go_region_held3 (fun w' => Below w.heap.size w w' ∧ w'.cell? ⟨R, 2, none⟩ = some (.map (some M)) ∧ Sem.run Tryz.prog (Instr.lookup 86 (.map (some M)) (.string (headT en l).text) true) w' = .ok (.tuple #[.int .i64 ri, .bool rb]) w')
    ((refine (fun (hB : Below w.heap.size w _) => ⟨hB, (hB.cell (p := ⟨R, 2, none⟩) hRl).trans c2, HLK.out _ hB⟩ : Below w.heap.size w _ → _) ?_; first | exact (Below.refl _ _).drew | exact hB1 | exact (show Below w.heap.size w _ ∧ _ ∧ _ by assumption).1))
    (first
      | (go_at_call 70; refine (HAH.out _ (show Below w.heap.size w _ ∧ _ ∧ _ by assumption).1).mono ?_; rintro e w1 ⟨rfl, hbq⟩; have hB1 := held_call9 (by assumption) hbq))
  have HR1 : Hid (Rd N R M en w1 l) := HB.out.below hB1
  have HF1 : Hid (Fr (fun k => k = R) w w1) := Fr.below hB1
  cases rb
  · go_wp2_with fail
    refine (ahead_any N R M en _ l HR1.out).mono ?_
    rintro e w2 ⟨rfl, hb2⟩
    have HR2 : Hid (Rd N R M en w2 l) := HR1.out.below hb2
    have HF2 : Hid (Fr (fun k => k = R) w w2) := HF1.out.trans (Fr.below hb2)
    unfold tokA
    clear hb2
    go_wp2_with fail
    refine (risname_any _ HSZ.out _).mono ?_
    rintro e w3 ⟨rfl, hb3⟩
    rw [HNB.out]
    have HR3 : Hid (Rd N R M en w3 l) := HR2.out.below hb3
    have HF3 : Hid (Fr (fun k => k = R) w w3) := HF2.out.trans (Fr.below hb3)
    clear hb3
    cases nb
    · have HP2 : Hid (P = .bad (headT en l).place 1) := HP.out
      go_wp2_with fail
      refine (pass_any N R M en false w3 l HR3.out (fun hb => by cases hb)).mono ?_
      intro e w4 hp
      obtain ⟨rfl, hfr⟩ := hp
      have hfr2 := HF3.out.trans hfr
      go_wp2
      exact ⟨rfl, by rw [HP2.out]; exact ⟨rfl, hfr2⟩⟩
    · have HP2 : Hid (P = .bad (headT en l).place 5) := HP.out
      go_wp2_with fail
      refine (giveup_any N R M en 5 _ l HR3.out).mono ?_
      rintro e w4 ⟨rfl, hb4⟩
      have hfr2 := HF3.out.trans (Fr.below hb4)
      go_wp2
      exact ⟨rfl, by rw [HP2.out]; exact ⟨rfl, hfr2⟩⟩
  · have HP2 : Hid (P = (passP en true l).bind fun _ r => .ok ri r) := HP.out
    go_wp2_with fail
    refine (pass_any N R M en true w1 l HR1.out (fun _ => HL.out (by first | rfl | trivial))).mono ?_
    intro e w4 hp
    obtain ⟨v, rfl, rfl, hrd, hfr⟩ := hp
    have hfr2 := HF1.out.trans hfr
    unfold tokA
    go_wp2
    go_ret
    rw [HP2.out]
    exact ⟨_, rfl, rfl, hrd, hfr2⟩
end Go.Proofs.YtggkbhafbhhhhabGreatDoor
