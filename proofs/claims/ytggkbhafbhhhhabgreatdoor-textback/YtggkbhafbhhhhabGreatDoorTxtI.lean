/-
  WALKS: package text: the words; the reader: numbers, variables, rows, lit, lits.
-/
import Derived.Test.YtggkbhafbhhhhabGreatDoorTxtG
import Derived.Test.YtggkbhafbhhhhabGreatDoorTxtH
namespace Go.Proofs.YtggkbhafbhhhhabGreatDoor
open Go.RowKit

theorem PostR.mono {α : Type} {p : PR α} {G G' : α → Value → World → Prop} {N R M : Nat} {en : Int} {X : Nat → Prop} {w w' : World} {e : Ending} (hG : ∀ a v w', G a v w' → G' a v w') (h : PostR p G N R M en X w e w') : PostR p G' N R M en X w e w' := by
  unfold PostR at *
  cases p with
  | ok a r => obtain ⟨v, h1, h2, h3, h4⟩ := h; exact ⟨v, h1, hG _ _ _ h2, h3, h4⟩
  | bad x er => exact h
theorem strs_new (w : World) (l : List ByteArray) (hl : l.length ≤ 100) : SArg (w.alloc (.cells (l.map Value.string).toArray 9)) (.slice (some ⟨w.heap.size, 0, none⟩) l.length l.length) l := by
  refine ⟨_, _, rfl, ⟨Nat.le_refl _, by unfold maxLen; omega⟩, fun i z hz => ⟨_, 0, rfl, by simp, ?_⟩⟩
  rw [World.cell?_alloc_at _ _ _ _ rfl]
  simp [hz]
set_option maxHeartbeats 400000 in
set_option maxRecDepth 100000 in
theorem words_ops (w : World) : Calls Tryz.prog 113 #[] w fun e w' => ∃ v, e = .returned v ∧ SArg w' v opWL ∧ Below w.heap.size w w' := by
  go_enter Tryz.func113, Tryz.ntmps113
  go_wp2
  go_ret
  exact ⟨_, rfl, strs_new w opWL (by decide), below_alloc _ _⟩
set_option maxHeartbeats 400000 in
set_option maxRecDepth 100000 in
theorem words_goals (w : World) : Calls Tryz.prog 59 #[] w fun e w' => ∃ v, e = .returned v ∧ SArg w' v goalWL ∧ Below w.heap.size w w' := by
  go_enter Tryz.func59, Tryz.ntmps59
  go_wp2
  go_ret
  exact ⟨_, rfl, strs_new w goalWL (by decide), below_alloc _ _⟩
set_option maxHeartbeats 400000 in
set_option maxRecDepth 100000 in
theorem words_cons (w : World) : Calls Tryz.prog 94 #[] w fun e w' => ∃ v, e = .returned v ∧ SArg w' v conWL ∧ Below w.heap.size w w' := by
  go_enter Tryz.func94, Tryz.ntmps94
  go_wp2
  go_ret
  exact ⟨_, rfl, strs_new w conWL (by decide), below_alloc _ _⟩

theorem own_mono9 {w : World} {base base' : Nat} {e : TypeId} {size : Nat} {v : Value} {n : Nat} {xs : List Value} (h : w.ownsRow base e size v n xs) (hb : base' ≤ base) : w.ownsRow base' e size v n xs := by
  refine ⟨h.1, ?_⟩
  rcases h.2 with hn | ⟨g, cap, cur, hv, hg, r⟩
  · exact .inl hn
  · exact .inr ⟨g, cap, cur, hv, Nat.le_trans hb hg, r⟩
theorem enters_number (args : Array Value) (w' : World) : Sem.run Tryz.prog (callFunc 97 args) w' = .ok (.enter 97 args) w' := by
  simp [callFunc, go_sem, Tryz.func97, Tryz.f97]
theorem enters_name9 (args : Array Value) (w' : World) : Sem.run Tryz.prog (callFunc 101 args) w' = .ok (.enter 101 args) w' := by
  simp [callFunc, go_sem, Tryz.func101, Tryz.f101]
theorem enters_numbers (args : Array Value) (w' : World) : Sem.run Tryz.prog (callFunc 99 args) w' = .ok (.enter 99 args) w' := by
  simp [callFunc, go_sem, Tryz.func99, Tryz.f99]
theorem enters_lit9 (args : Array Value) (w' : World) : Sem.run Tryz.prog (callFunc 104 args) w' = .ok (.enter 104 args) w' := by
  simp [callFunc, go_sem, Tryz.func104, Tryz.f104]
theorem item_number (B N R M : Nat) (en : Int) : Item B N R M en 97 (numberP en) (fun i v _ => v = .int .i64 i) (fun _ => True) :=
  ⟨enters_number, fun _ _ _ _ => trivial, fun w l h _ => (number_any N R M en w l h).mono fun _ _ hp => hp.mono fun _ _ _ h => h.1⟩
/-- The names, as what must be of the world besides. -/
theorem names_stay (B R M : Nat) (names : List ByteArray) (hM : M < B) (hMR : M ≠ R) (w w' : World) (h : NmS w M names) (hf : Fr (fun k => k = R ∨ B ≤ k) w w') : NmS w' M names :=
  h.old (hf.block M h.lt (fun hx => hx.elim hMR (fun h => by omega)))
theorem item_name (B N R M : Nat) (en : Int) (names : List ByteArray) (hM : M < B) (hMR : M ≠ R) (hne : ∀ n ∈ names, n.data.toList ≠ []) : Item B N R M en 101 (nameP en names) (fun i v _ => v = .int .i64 i) (fun w => NmS w M names) :=
  ⟨enters_name9, names_stay B R M names hM hMR, fun w l h hn => name_any N R M en names w l h hn hne⟩

set_option maxHeartbeats 400000 in
set_option maxRecDepth 100000 in
theorem numbers_any (N R M : Nat) (en : Int) (w : World) (l : List Tok) (h : Rd N R M en w l) :
    Calls Tryz.prog 99 #[.pointer (some ⟨R, 0, none⟩)] w (PostR (readP en (numberP en) l) (fun xs v w' => w'.ownsRow w.heap.size 3 1 v xs.length (xs.map (Value.int .i64))) N R M en (fun k => k = R) w) := by
  have HB : Hid (Rd N R M en w l) := h
  obtain ⟨P, hP⟩ : ∃ P, readP en (numberP en) l = P := ⟨_, rfl⟩
  have HP : Hid (readP en (numberP en) l = P) := hP
  rw [hP]
  clear h hP
  go_enter Tryz.func99, Tryz.ntmps99
  go_wp2_with fail
  refine (readints_any N R M en 97 (numberP en) (fun _ => True) (eats_number en) w.heap.size (item_number _ _ _ _ _) w (Nat.le_refl _) l HB.out trivial HB.out.len).mono ?_
  intro e w1 hp
  rw [HP.out] at hp
  cases P with
  | bad x er =>
    obtain ⟨rfl, hfr⟩ := hp
    go_wp2
    exact ⟨rfl, rfl, hfr⟩
  | ok xs r =>
    obtain ⟨v, rfl, ⟨ho, _⟩, hrd, hfr⟩ := hp
    have HO : Hid (w1.ownsRow w.heap.size 3 1 v xs.length (xs.map (Value.int .i64))) := ho
    obtain ⟨av, cv, hv⟩ := own_form ho
    subst hv
    clear ho
    go_wp2
    go_ret
    exact ⟨_, rfl, HO.out, hrd, hfr⟩
theorem item_numbers (B N R M : Nat) (en : Int) : Item B N R M en 99 (readP en (numberP en)) (fun xs v w' => w'.ownsRow B 3 1 v xs.length (xs.map (Value.int .i64))) (fun w => B ≤ w.heap.size) :=
  ⟨enters_numbers, fun _ _ h hf => Nat.le_trans h hf.size, fun w l h hB => (numbers_any N R M en w l h).mono fun _ _ hp => hp.mono fun _ _ _ h => own_mono9 h hB⟩

set_option maxHeartbeats 400000 in
set_option maxRecDepth 100000 in
theorem variables_any (N R M : Nat) (en : Int) (names : List ByteArray) (w : World) (l : List Tok) (h : Rd N R M en w l) (hn : NmS w M names) (hne : ∀ n ∈ names, n.data.toList ≠ []) :
    Calls Tryz.prog 100 #[.pointer (some ⟨R, 0, none⟩)] w (PostR (readP en (nameP en names) l) (fun xs v w' => w'.ownsRow w.heap.size 3 1 v xs.length (xs.map (Value.int .i64)) ∧ NmS w' M names) N R M en (fun k => k = R) w) := by
  have HB : Hid (Rd N R M en w l) := h
  have HN : Hid (NmS w M names) := hn
  have HNE : Hid (∀ n ∈ names, n.data.toList ≠ []) := hne
  have hMR : M ≠ R := h.1.2.2
  obtain ⟨P, hP⟩ : ∃ P, readP en (nameP en names) l = P := ⟨_, rfl⟩
  have HP : Hid (readP en (nameP en names) l = P) := hP
  rw [hP]
  clear h hP hn hne
  go_enter Tryz.func100, Tryz.ntmps100
  go_wp2_with fail
  refine (readints_any N R M en 101 (nameP en names) (fun w => NmS w M names) (eats_name en names) w.heap.size (item_name _ _ _ _ _ names HN.out.lt hMR HNE.out) w (Nat.le_refl _) l HB.out HN.out HB.out.len).mono ?_
  intro e w1 hp
  rw [HP.out] at hp
  cases P with
  | bad x er =>
    obtain ⟨rfl, hfr⟩ := hp
    go_wp2
    exact ⟨rfl, rfl, hfr⟩
  | ok xs r =>
    obtain ⟨v, rfl, ⟨ho, hn1⟩, hrd, hfr⟩ := hp
    have HO : Hid (w1.ownsRow w.heap.size 3 1 v xs.length (xs.map (Value.int .i64)) ∧ NmS w1 M names) := ⟨ho, hn1⟩
    obtain ⟨av, cv, hv⟩ := own_form ho
    subst hv
    clear ho hn1
    go_wp2
    go_ret
    exact ⟨_, rfl, HO.out, hrd, hfr⟩

set_option maxHeartbeats 400000 in
set_option maxRecDepth 100000 in
theorem rows_any (B N R M : Nat) (en : Int) (w : World) (l : List Tok) (h : Rd N R M en w l) (hB : B ≤ w.heap.size) (hRB : R < B) :
    Calls Tryz.prog 102 #[.pointer (some ⟨R, 0, none⟩)] w (PostR (readP en (readP en (numberP en)) l) (fun xs v w' => LSr B w.heap.size w' v xs) N R M en (fun k => k = R) w) := by
  have HB : Hid (Rd N R M en w l) := h
  obtain ⟨P, hP⟩ : ∃ P, readP en (readP en (numberP en)) l = P := ⟨_, rfl⟩
  have HP : Hid (readP en (readP en (numberP en)) l = P) := hP
  rw [hP]
  clear h hP
  go_enter Tryz.func102, Tryz.ntmps102
  go_wp2_with fail
  refine (readrows_any N R M en 99 (readP en (numberP en)) (fun w => B ≤ w.heap.size) (eats_read en _ (eats_number en)) B (item_numbers B _ _ _ _) w hB hRB l HB.out hB HB.out.len).mono ?_
  intro e w1 hp
  rw [HP.out] at hp
  cases P with
  | bad x er =>
    obtain ⟨rfl, hfr⟩ := hp
    go_wp2
    exact ⟨rfl, rfl, hfr⟩
  | ok xs r =>
    obtain ⟨v, rfl, ⟨ho, _⟩, hrd, hfr⟩ := hp
    have HO : Hid (LSr B w.heap.size w1 v xs) := ho
    obtain ⟨av, cv, hv⟩ := ho.form
    subst hv
    clear ho
    go_wp2
    go_ret
    exact ⟨_, rfl, HO.out, hrd, hfr⟩
end Go.Proofs.YtggkbhafbhhhhabGreatDoor
