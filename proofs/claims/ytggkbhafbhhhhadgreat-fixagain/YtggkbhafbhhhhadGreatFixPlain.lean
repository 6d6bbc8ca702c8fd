/-
  PLAIN: the greatest store that nothing changes: what all together leave, in whatever order; no program in it.
-/
import Derived.Test.YtggkbhafbhhhhadGreatClaPlain
namespace Go.Proofs.YtggkbhafbhhhhadGreat

def clearS (s : Sto) : Sto := s.map fun _ => []
/-- If a variable has none, all have none. -/
def nrmS (s : Sto) : Sto := if failedS s then clearS s else s
theorem clear_len (s : Sto) : (clearS s).length = s.length := by simp [clearS]
theorem clear_get (s : Sto) (k : Nat) (r : List Int) (h : (clearS s)[k]? = some r) : r = [] := by
  unfold clearS at h
  rw [List.getElem?_map] at h
  obtain ⟨_, _, rfl⟩ := Option.map_eq_some_iff.1 h
  rfl
theorem nrm_len (s : Sto) : (nrmS s).length = s.length := by unfold nrmS; split <;> simp [clearS]
theorem fail_iff (s : Sto) : failedS s = true ↔ ∃ k : Nat, s[k]? = some [] := by
  unfold failedS
  rw [List.any_eq_true]
  constructor
  · rintro ⟨r, hr, h⟩
    obtain ⟨k, hk⟩ := List.mem_iff_getElem?.1 hr
    have : r = [] := List.eq_nil_of_length_eq_zero (by simpa using h)
    exact ⟨k, by rw [hk, this]⟩
  · rintro ⟨k, hk⟩
    exact ⟨[], List.mem_of_getElem? hk, rfl⟩
theorem clear_failed (s : Sto) (h : failedS s = true) : failedS (clearS s) = true := by
  obtain ⟨k, hk⟩ := (fail_iff s).1 h
  refine (fail_iff _).2 ⟨k, ?_⟩
  unfold clearS
  rw [List.getElem?_map, hk]; rfl
theorem nrm_failed (s : Sto) : failedS (nrmS s) = failedS s := by
  unfold nrmS
  cases h : failedS s
  · simp [h]
  · rw [if_pos rfl]; exact clear_failed s h
theorem clear_clear (s : Sto) : clearS (clearS s) = clearS s := by simp [clearS]
theorem nrm_nrm (s : Sto) : nrmS (nrmS s) = nrmS s := by
  cases h : failedS s
  · have : nrmS s = s := by unfold nrmS; rw [h, if_neg (by simp)]
    rw [this, this]
  · have e : nrmS s = clearS s := by unfold nrmS; rw [h, if_pos rfl]
    rw [e]
    unfold nrmS
    rw [clear_failed s h, if_pos rfl, clear_clear]
theorem sub_nrm (s : Sto) : SubS (nrmS s) s := by
  unfold nrmS
  split
  · refine ⟨clear_len s, fun k r q hr hq x hx => ?_⟩
    rw [clear_get s k r hr] at hx; cases hx
  · exact SubS.refl _
theorem sub_failed {t s : Sto} (h : SubS t s) (hs : failedS s = true) : failedS t = true := by
  obtain ⟨k, hk⟩ := (fail_iff s).1 hs
  refine (fail_iff t).2 ⟨k, ?_⟩
  have hi : k < t.length := by rw [h.1]; exact (List.getElem?_eq_some_iff.1 hk).1
  have e : t[k]? = some t[k] := by simp [hi]
  have : t[k] = [] := by
    rcases hq : t[k] with _ | ⟨a, r⟩
    · rfl
    · have := h.2 k _ _ e hk a (by rw [hq]; exact List.mem_cons_self ..)
      cases this
  rw [e, this]
theorem sub_clear {t s : Sto} (hl : t.length = s.length) : SubS (clearS t) s := by
  refine ⟨by rw [clear_len, hl], fun k r q hr hq x hx => ?_⟩
  rw [clear_get t k r hr] at hx; cases hx
theorem nrm_mono {t s : Sto} (h : SubS t s) : SubS (nrmS t) (nrmS s) := by
  cases ht : failedS t
  · have hs : failedS s = false := by
      cases hs : failedS s
      · rfl
      · rw [sub_failed h hs] at ht; cases ht
    unfold nrmS
    rw [ht, hs]
    exact h
  · have : nrmS t = clearS t := by unfold nrmS; rw [ht, if_pos rfl]
    rw [this]
    exact sub_clear (by rw [nrm_len]; exact h.1)

/-- Row by row a part. -/
def RowSub (t s : Sto) : Prop := t.length = s.length ∧ ∀ (k : Nat) r q, t[k]? = some r → s[k]? = some q → r.Sublist q
theorem RowSub.refl (s : Sto) : RowSub s s := ⟨rfl, fun k r q hr hq => by rw [hr] at hq; cases hq; exact List.Sublist.refl _⟩
theorem RowSub.trans {a b c : Sto} (h : RowSub a b) (k : RowSub b c) : RowSub a c := by
  refine ⟨h.1.trans k.1, fun i r q hr hq => ?_⟩
  have hi : i < b.length := by rw [← h.1]; exact (List.getElem?_eq_some_iff.1 hr).1
  have e : b[i]? = some b[i] := by simp [hi]
  exact (h.2 i r _ hr e).trans (k.2 i _ q e hq)
theorem row_sift (s : Sto) (p : Nat → Int → Bool) : RowSub (siftS s p) s := by
  refine ⟨siftS_len _ _, fun k r q hr hq => ?_⟩
  obtain ⟨a, ha, rfl⟩ := siftS_back _ _ _ _ hr
  rw [hq] at ha; cases ha
  exact List.filter_sublist
theorem row_unit (s : Sto) (c : Cla) : RowSub (unitS s c) s := by
  unfold unitS
  split
  · exact RowSub.refl _
  · split
    · exact row_sift _ _
    · split
      · exact row_sift _ _
      · exact RowSub.refl _
def sizeS (s : Sto) : Nat := (s.map List.length).sum
theorem row_size : ∀ (t s : Sto), RowSub t s → sizeS t ≤ sizeS s ∧ (sizeS t = sizeS s → t = s)
  | [], [], _ => ⟨Nat.le_refl _, fun _ => rfl⟩
  | [], b :: s, h => by have := h.1; simp at this
  | a :: t, [], h => by have := h.1; simp at this
  | a :: t, b :: s, h => by
    have h0 := h.2 0 a b rfl rfl
    have ih := row_size t s ⟨by simpa using h.1, fun k r q hr hq => h.2 (k + 1) r q (by simpa using hr) (by simpa using hq)⟩
    have hl := h0.length_le
    have e1 : sizeS (a :: t) = a.length + sizeS t := by simp [sizeS]
    have e2 : sizeS (b :: s) = b.length + sizeS s := by simp [sizeS]
    refine ⟨by omega, fun he => ?_⟩
    have ha : a = b := h0.eq_of_length (by omega)
    have ht : t = s := ih.2 (by omega)
    rw [ha, ht]
theorem clear_sift (s : Sto) : clearS s = siftS s fun _ _ => false := by
  refine sto_ext _ _ (by rw [clear_len, siftS_len]) fun k r q hr hq => ?_
  obtain ⟨a, ha, rfl⟩ := siftS_back _ _ _ _ hq
  rw [clear_get s k r hr]
  simp
/-- A step: it takes away, of less it leaves less, and leaves alone what has failed. -/
structure StepOk (f : Sto → Sto) : Prop where
  dec : ∀ s, SubS (f s) s
  row : ∀ s, RowSub (f s) s
  mono : ∀ s t, SubS t s → failedS t = false → failedS s = false → SubS (f t) (f s)
  stay : ∀ s, failedS s = true → f s = s
theorem step_nrm {f : Sto → Sto} (hf : StepOk f) {t s : Sto} (h : SubS t s) : SubS (nrmS (f t)) (nrmS (f s)) := by
  cases ht : failedS t
  · cases hs : failedS s
    · exact nrm_mono (hf.mono s t h ht hs)
    · rw [sub_failed h hs] at ht; cases ht
  · rw [hf.stay t ht]
    have : nrmS t = clearS t := by unfold nrmS; rw [ht, if_pos rfl]
    rw [this]
    exact sub_clear (by rw [nrm_len, (hf.dec s).1]; exact h.1)

/-- What nothing takes away from, below s. -/
def Holdout (fs : List (Sto → Sto)) (s u : Sto) : Prop := SubS u (nrmS s) ∧ nrmS u = u ∧ ∀ f ∈ fs, SubS u (nrmS (f u))
/-- What is on its way to the greatest one. -/
def OnWay (fs : List (Sto → Sto)) (s t : Sto) : Prop := SubS t s ∧ ∀ u, Holdout fs s u → SubS u t
/-- The greatest one. -/
def Greatest (fs : List (Sto → Sto)) (s t : Sto) : Prop := Holdout fs s t ∧ ∀ u, Holdout fs s u → SubS u t

theorem onway_begin (fs : List (Sto → Sto)) (s : Sto) : OnWay fs s s := ⟨SubS.refl _, fun _ hu => hu.1.trans (sub_nrm s)⟩
/-- .. a step's answer itself, where no variable is asked yet whether it has none. -/
theorem onway_raw {fs : List (Sto → Sto)} {s t : Sto} (h : OnWay fs s t) (f : Sto → Sto) (hf : f ∈ fs) (hok : StepOk f) : OnWay fs s (f t) :=
  ⟨(hok.dec t).trans h.1, fun u hu => ((hu.2.2 f hf).trans (step_nrm hok (h.2 u hu))).trans (sub_nrm _)⟩
theorem onway_clear {fs : List (Sto → Sto)} {s t : Sto} (h : OnWay fs s t) (hf : failedS t = true) (hok : ∀ f ∈ fs, StepOk f) : Greatest fs s (clearS t) := by
  have hc := clear_failed t hf
  have hn : nrmS (clearS t) = clearS t := by unfold nrmS; rw [hc, if_pos rfl, clear_clear]
  refine ⟨⟨sub_clear (by rw [nrm_len]; exact h.1.1), hn, fun f hf2 => ?_⟩, fun u hu => ?_⟩
  · rw [(hok f hf2).stay _ hc, hn]; exact SubS.refl _
  · have h1 := h.2 u hu
    have h2 := sub_failed h1 hf
    have h3 : u = clearS u := by
      have := hu.2.1
      unfold nrmS at this
      rw [h2, if_pos rfl] at this
      exact this.symm
    rw [h3]
    exact sub_clear (by rw [clear_len]; exact h1.1)
theorem onway_end {fs : List (Sto → Sto)} {s t : Sto} (h : OnWay fs s t) (hf : failedS t = false) (hs : ∀ f ∈ fs, f t = t) : Greatest fs s t := by
  have hn : nrmS t = t := by unfold nrmS; rw [hf, if_neg (by simp)]
  have hsf : failedS s = false := by
    cases hq : failedS s
    · rfl
    · rw [sub_failed h.1 hq] at hf; cases hf
  have hsn : nrmS s = s := by unfold nrmS; rw [hsf, if_neg (by simp)]
  exact ⟨⟨by rw [hsn]; exact h.1, hn, fun f hf2 => by rw [hs f hf2, hn]; exact SubS.refl _⟩, h.2⟩
/-- One after the other. -/
def passS (fs : List (Sto → Sto)) (t : Sto) : Sto := fs.foldl (fun t f => f t) t
theorem pass_row : ∀ (fs : List (Sto → Sto)) (t : Sto), (∀ f ∈ fs, StepOk f) → RowSub (passS fs t) t
  | [], t, _ => RowSub.refl t
  | f :: fs, t, h => (pass_row fs (f t) fun g hg => h g (List.mem_cons_of_mem _ hg)).trans ((h f (List.mem_cons_self ..)).row t)
theorem pass_same : ∀ (fs : List (Sto → Sto)) (t : Sto), (∀ f ∈ fs, StepOk f) → sizeS (passS fs t) = sizeS t → ∀ f ∈ fs, f t = t
  | [], t, _, _ => fun f hf => by cases hf
  | f :: fs, t, h, he => by
    have h1 := row_size _ _ (pass_row fs (f t) fun g hg => h g (List.mem_cons_of_mem _ hg))
    have h2 := row_size _ _ ((h f (List.mem_cons_self ..)).row t)
    have e0 : passS (f :: fs) t = passS fs (f t) := rfl
    rw [e0] at he
    have e1 : f t = t := h2.2 (by omega)
    rw [e1] at he
    intro g hg
    rcases List.mem_cons.1 hg with rfl | hg
    · exact e1
    · exact pass_same fs t (fun g hg => h g (List.mem_cons_of_mem _ hg)) he g hg
theorem onway_pass {gs : List (Sto → Sto)} {s : Sto} : ∀ (fs : List (Sto → Sto)) (t : Sto), (∀ f ∈ fs, f ∈ gs ∧ StepOk f) → OnWay gs s t → OnWay gs s (passS fs t)
  | [], _, _, h => h
  | f :: fs, t, h, hw => onway_pass fs (f t) (fun g hg => h g (List.mem_cons_of_mem _ hg)) (onway_raw hw f (h f (List.mem_cons_self ..)).1 (h f (List.mem_cons_self ..)).2)
theorem pass_next (fs : List (Sto → Sto)) (k : Nat) (f : Sto → Sto) (t : Sto) (h : fs[k]? = some f) : passS (fs.take (k + 1)) t = f (passS (fs.take k) t) := by
  unfold passS
  rw [List.take_add_one, h, List.foldl_append]; rfl
theorem till_end {fs : List (Sto → Sto)} {s t : Sto} (hok : ∀ f ∈ fs, StepOk f) (h : OnWay fs s t) (hs : ∀ f ∈ fs, f t = t) : Greatest fs s (nrmS t) := by
  cases hf : failedS t
  · have : nrmS t = t := by unfold nrmS; rw [hf, if_neg (by simp)]
    rw [this]
    exact onway_end h hf hs
  · have : nrmS t = clearS t := by unfold nrmS; rw [hf, if_pos rfl]
    rw [this]
    exact onway_clear h hf hok

theorem rows_eq : ∀ (a b : List Int), a.Pairwise (· < ·) → b.Pairwise (· < ·) → (∀ x, x ∈ a ↔ x ∈ b) → a = b
  | [], [], _, _, _ => rfl
  | [], y :: b, _, _, h => by have := (h y).2 (List.mem_cons_self ..); cases this
  | x :: a, [], _, _, h => by have := (h x).1 (List.mem_cons_self ..); cases this
  | x :: a, y :: b, ha, hb, h => by
    obtain ⟨h1, h2⟩ := List.pairwise_cons.1 ha
    obtain ⟨k1, k2⟩ := List.pairwise_cons.1 hb
    have hxy : x = y := by
      rcases List.mem_cons.1 ((h x).1 (List.mem_cons_self ..)) with e | e
      · exact e
      · rcases List.mem_cons.1 ((h y).2 (List.mem_cons_self ..)) with f | f
        · exact f.symm
        · have := k1 x e; have := h1 y f; omega
    subst hxy
    congr 1
    refine rows_eq a b h2 k2 fun z => ?_
    constructor
    · intro hz
      rcases List.mem_cons.1 ((h z).1 (List.mem_cons_of_mem _ hz)) with e | e
      · have := h1 z hz; omega
      · exact e
    · intro hz
      rcases List.mem_cons.1 ((h z).2 (List.mem_cons_of_mem _ hz)) with e | e
      · have := k1 z hz; omega
      · exact e
/-- Two right stores that are within one another are the same. -/
theorem sub_antisymm {a b : Sto} (ha : a.all risesB = true) (hb : b.all risesB = true) (h : SubS a b) (k : SubS b a) : a = b := by
  refine sto_ext a b h.1 fun i r q hr hq => ?_
  refine rows_eq r q ((rises_pair _).1 (List.all_eq_true.1 ha _ (List.mem_of_getElem? hr))) ((rises_pair _).1 (List.all_eq_true.1 hb _ (List.mem_of_getElem? hq))) fun x => ⟨h.2 i r q hr hq x, k.2 i q r hq hr x⟩
theorem sub_within {a b : Sto} (h : SubS a b) : withinS a b = true := by
  unfold withinS
  rw [all_zip]
  intro i r q hr hq
  exact (withinR_iff _ _).2 (h.2 i r q hr hq)
theorem within_sub {a b : Sto} (hl : a.length = b.length) (h : withinS a b = true) : SubS a b := by
  unfold withinS at h
  rw [all_zip] at h
  exact ⟨hl, fun i r q hr hq => (withinR_iff _ _).1 (h i r q hr hq)⟩

/-- DONE TWICE IT IS DONE ONCE. -/
theorem great_again {fs : List (Sto → Sto)} {s t t2 : Sto} (h : Greatest fs s t) (h2 : Greatest fs t t2) (ht : t.all risesB = true) (ht2 : t2.all risesB = true) : t2 = t := by
  have hn : nrmS t = t := h.1.2.1
  refine sub_antisymm ht2 ht ?_ (h2.2 t ⟨by rw [hn]; exact SubS.refl _, hn, h.1.2.2⟩)
  have := h2.1.1
  rwa [hn] at this
/-- ALL TOGETHER LEAVE NO MORE THAN A PART DOES. -/
theorem great_part {fs gs : List (Sto → Sto)} {s t a : Sto} (h : Greatest fs s t) (k : Greatest gs s a) (hsub : ∀ g ∈ gs, g ∈ fs) : SubS t a :=
  k.2 t ⟨h.1.1, h.1.2.1, fun g hg => h.1.2.2 g (hsub g hg)⟩
/-- WHAT IS WITHIN IS WITHIN. -/
theorem great_less {fs : List (Sto → Sto)} {s less t k : Sto} (h : Greatest fs s t) (h2 : Greatest fs less k) (hl : SubS less s) : SubS k t :=
  h.2 k ⟨h2.1.1.trans (nrm_mono hl), h2.1.2.1, h2.1.2.2⟩
/-- NO VALUES THAT EVERY STEP KEEPS ARE LOST. -/
theorem great_keeps {fs : List (Sto → Sto)} {s t : Sto} (h : Greatest fs s t) (vals : List Int) (hs : hasS s vals = true) (hk : ∀ f ∈ fs, ∀ u : Sto, u.length = s.length → hasS u vals = true → hasS (f u) vals = true) : hasS t vals = true := by
  let u : Sto := vals.map fun x => [x]
  have hs2 := (hasS_iff s vals).1 hs
  have hul : u.length = s.length := by simp [u, hs2.1]
  have huget : ∀ (k : Nat) r, u[k]? = some r → ∃ x, vals[k]? = some x ∧ r = [x] := by
    intro k r hr
    simp only [u, List.getElem?_map] at hr
    obtain ⟨x, hx, rfl⟩ := Option.map_eq_some_iff.1 hr
    exact ⟨x, hx, rfl⟩
  have huh : hasS u vals = true := by
    rw [hasS_iff]
    refine ⟨by simp [u], fun k r x hr hx => ?_⟩
    obtain ⟨y, hy, rfl⟩ := huget k r hr
    rw [hx] at hy; cases hy
    exact List.mem_singleton.2 rfl
  have sub_of : ∀ a : Sto, a.length = s.length → hasS a vals = true → SubS u a := by
    intro a hal ha
    rw [hasS_iff] at ha
    refine ⟨by rw [hul, hal], fun k r q hr hq x hx => ?_⟩
    obtain ⟨y, hy, rfl⟩ := huget k r hr
    rw [List.mem_singleton.1 hx]
    exact ha.2 k q y hq hy
  have nrm_of : ∀ a : Sto, hasS a vals = true → nrmS a = a := by
    intro a ha
    unfold nrmS
    rw [has_not_failed a vals ha, if_neg (by simp)]
  have hu : Holdout fs s u := by
    refine ⟨by rw [nrm_of s hs]; exact sub_of s rfl hs, nrm_of u huh, fun f hf => ?_⟩
    have hfu := hk f hf u hul huh
    rw [nrm_of (f u) hfu]
    have hl := ((hasS_iff _ _).1 hfu).1
    exact sub_of (f u) (by rw [hl]; exact hs2.1.symm) hfu
  have hut := h.2 u hu
  rw [hasS_iff]
  refine ⟨by rw [← hut.1, hul]; exact hs2.1, fun k r x hr hx => ?_⟩
  have hk2 : u[k]? = some [x] := by simp only [u, List.getElem?_map, hx]; rfl
  exact hut.2 k _ r hk2 hr x (List.mem_singleton.2 rfl)
theorem unit_step (c : Cla) : StepOk fun s => unitS s c where
  dec s := sub_unit s c
  row s := row_unit s c
  mono s t h ht hs := unit_mono s t c h ht hs
  stay s h := by unfold unitS; rw [h, if_pos rfl]
theorem great_unique {fs : List (Sto → Sto)} {s t t2 : Sto} (h : Greatest fs s t) (h2 : Greatest fs s t2) (ht : t.all risesB = true) (ht2 : t2.all risesB = true) : t2 = t :=
  sub_antisymm ht2 ht (h.2 _ h2.1) (h2.2 _ h.1)
theorem checkV_nrm (vs : List MVar) (s : Sto) (h : checkV vs s = 0) : checkV vs (nrmS s) = 0 := by
  unfold nrmS
  split
  · rw [clear_sift]; exact checkV_sift _ _ _ h
  · exact h
theorem checkV_pass (vs : List MVar) : ∀ (fs : List (Sto → Sto)) (t : Sto), (∀ f ∈ fs, ∀ u, checkV vs u = 0 → checkV vs (f u) = 0) → checkV vs t = 0 → checkV vs (passS fs t) = 0
  | [], _, _, h => h
  | f :: fs, t, h, ht => checkV_pass vs fs (f t) (fun g hg => h g (List.mem_cons_of_mem _ hg)) (h f (List.mem_cons_self ..) t ht)
end Go.Proofs.YtggkbhafbhhhhadGreat
