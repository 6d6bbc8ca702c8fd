/-
  PART 3 of what the proof leans on (FixPlain, TruA, ModJ, ModK, ModL, ModN, ModO, ModQ, Srt, ModS).
-/
import Derived.Test.YtdjbejlbmaiocagGreatDoorPartB
import Derived.Laws.OwnMore
import Derived.Maps.OwnSet
import Derived.Maps.AppendAt
import Derived.WalkKit
import Derived.BigQuiet
import Derived.Shelf.Sort.Plain
import Derived.Ground.Names2Prog
import Derived.Shelf.Slices.CompactI
import Derived.Test.YtdjbejlbmaiocagGreatDoorProg
/-
  PLAIN: the greatest store that nothing changes: what all together leave, in whatever order; no program in it.
-/
namespace Go.Proofs.YtdjbejlbmaiocagGreatDoor

def clearS (s : Sto) : Sto := s.map fun _ => []
/-- If a variable has none, all have none. -/
def nrmS (s : Sto) : Sto := if failedS s then clearS s else s
theorem clear_len (s : Sto) : (clearS s).length = s.length := by simp [clearS]
theorem clear_get (s : Sto) (k : Nat) (r : List Int) (h : (clearS s)[k]? = some r) : r = [] := by
  unfold clearS at h
  rw [List.getElem?_map] at h
  obtain ⟨_, _, rfl⟩ := Option.map_eq_some_iff.1 h
  rfl
theorem nrm_len (s : Sto) : (nrmS s).length = s.length := by unfold nrmS; split <;> simp [clearS]
theorem fail_iff (s : Sto) : failedS s = true ↔ ∃ k : Nat, s[k]? = some [] := by
  unfold failedS
  rw [List.any_eq_true]
  constructor
  · rintro ⟨r, hr, h⟩
    obtain ⟨k, hk⟩ := List.mem_iff_getElem?.1 hr
    have : r = [] := List.eq_nil_of_length_eq_zero (by simpa using h)
    exact ⟨k, by rw [hk, this]⟩
  · rintro ⟨k, hk⟩
    exact ⟨[], List.mem_of_getElem? hk, rfl⟩
theorem clear_failed (s : Sto) (h : failedS s = true) : failedS (clearS s) = true := by
  obtain ⟨k, hk⟩ := (fail_iff s).1 h
  refine (fail_iff _).2 ⟨k, ?_⟩
  unfold clearS
  rw [List.getElem?_map, hk]; rfl
theorem nrm_failed (s : Sto) : failedS (nrmS s) = failedS s := by
  unfold nrmS
  cases h : failedS s
  · simp [h]
  · rw [if_pos rfl]; exact clear_failed s h
theorem clear_clear (s : Sto) : clearS (clearS s) = clearS s := by simp [clearS]
theorem nrm_nrm (s : Sto) : nrmS (nrmS s) = nrmS s := by
  cases h : failedS s
  · have : nrmS s = s := by unfold nrmS; rw [h, if_neg (by simp)]
    rw [this, this]
  · have e : nrmS s = clearS s := by unfold nrmS; rw [h, if_pos rfl]
    rw [e]
    unfold nrmS
    rw [clear_failed s h, if_pos rfl, clear_clear]
theorem sub_nrm (s : Sto) : SubS (nrmS s) s := by
  unfold nrmS
  split
  · refine ⟨clear_len s, fun k r q hr hq x hx => ?_⟩
    rw [clear_get s k r hr] at hx; cases hx
  · exact SubS.refl _
theorem sub_failed {t s : Sto} (h : SubS t s) (hs : failedS s = true) : failedS t = true := by
  obtain ⟨k, hk⟩ := (fail_iff s).1 hs
  refine (fail_iff t).2 ⟨k, ?_⟩
  have hi : k < t.length := by rw [h.1]; exact (List.getElem?_eq_some_iff.1 hk).1
  have e : t[k]? = some t[k] := by simp [hi]
  have : t[k] = [] := by
    rcases hq : t[k] with _ | ⟨a, r⟩
    · rfl
    · have := h.2 k _ _ e hk a (by rw [hq]; exact List.mem_cons_self ..)
      cases this
  rw [e, this]
theorem sub_clear {t s : Sto} (hl : t.length = s.length) : SubS (clearS t) s := by
  refine ⟨by rw [clear_len, hl], fun k r q hr hq x hx => ?_⟩
  rw [clear_get t k r hr] at hx; cases hx
theorem nrm_mono {t s : Sto} (h : SubS t s) : SubS (nrmS t) (nrmS s) := by
  cases ht : failedS t
  · have hs : failedS s = false := by
      cases hs : failedS s
      · rfl
      · rw [sub_failed h hs] at ht; cases ht
    unfold nrmS
    rw [ht, hs]
    exact h
  · have : nrmS t = clearS t := by unfold nrmS; rw [ht, if_pos rfl]
    rw [this]
    exact sub_clear (by rw [nrm_len]; exact h.1)

/-- Row by row a part. -/
def RowSub (t s : Sto) : Prop := t.length = s.length ∧ ∀ (k : Nat) r q, t[k]? = some r → s[k]? = some q → r.Sublist q
theorem RowSub.refl (s : Sto) : RowSub s s := ⟨rfl, fun k r q hr hq => by rw [hr] at hq; cases hq; exact List.Sublist.refl _⟩
theorem RowSub.trans {a b c : Sto} (h : RowSub a b) (k : RowSub b c) : RowSub a c := by
  refine ⟨h.1.trans k.1, fun i r q hr hq => ?_⟩
  have hi : i < b.length := by rw [← h.1]; exact (List.getElem?_eq_some_iff.1 hr).1
  have e : b[i]? = some b[i] := by simp [hi]
  exact (h.2 i r _ hr e).trans (k.2 i _ q e hq)
theorem row_sift (s : Sto) (p : Nat → Int → Bool) : RowSub (siftS s p) s := by
  refine ⟨siftS_len _ _, fun k r q hr hq => ?_⟩
  obtain ⟨a, ha, rfl⟩ := siftS_back _ _ _ _ hr
  rw [hq] at ha; cases ha
  exact List.filter_sublist
theorem row_unit (s : Sto) (c : Cla) : RowSub (unitS s c) s := by
  unfold unitS
  split
  · exact RowSub.refl _
  · split
    · exact row_sift _ _
    · split
      · exact row_sift _ _
      · exact RowSub.refl _
def sizeS (s : Sto) : Nat := (s.map List.length).sum
theorem row_size : ∀ (t s : Sto), RowSub t s → sizeS t ≤ sizeS s ∧ (sizeS t = sizeS s → t = s)
  | [], [], _ => ⟨Nat.le_refl _, fun _ => rfl⟩
  | [], b :: s, h => by have := h.1; simp at this
  | a :: t, [], h => by have := h.1; simp at this
  | a :: t, b :: s, h => by
    have h0 := h.2 0 a b rfl rfl
    have ih := row_size t s ⟨by simpa using h.1, fun k r q hr hq => h.2 (k + 1) r q (by simpa using hr) (by simpa using hq)⟩
    have hl := h0.length_le
    have e1 : sizeS (a :: t) = a.length + sizeS t := by simp [sizeS]
    have e2 : sizeS (b :: s) = b.length + sizeS s := by simp [sizeS]
    refine ⟨by omega, fun he => ?_⟩
    have ha : a = b := h0.eq_of_length (by omega)
    have ht : t = s := ih.2 (by omega)
    rw [ha, ht]
theorem clear_sift (s : Sto) : clearS s = siftS s fun _ _ => false := by
  refine sto_ext _ _ (by rw [clear_len, siftS_len]) fun k r q hr hq => ?_
  obtain ⟨a, ha, rfl⟩ := siftS_back _ _ _ _ hq
  rw [clear_get s k r hr]
  simp
/-- A step: it takes away, of less it leaves less, and leaves alone what has failed. -/
structure StepOk (f : Sto → Sto) : Prop where
  dec : ∀ s, SubS (f s) s
  row : ∀ s, RowSub (f s) s
  mono : ∀ s t, SubS t s → failedS t = false → failedS s = false → SubS (f t) (f s)
  stay : ∀ s, failedS s = true → f s = s
theorem step_nrm {f : Sto → Sto} (hf : StepOk f) {t s : Sto} (h : SubS t s) : SubS (nrmS (f t)) (nrmS (f s)) := by
  cases ht : failedS t
  · cases hs : failedS s
    · exact nrm_mono (hf.mono s t h ht hs)
    · rw [sub_failed h hs] at ht; cases ht
  · rw [hf.stay t ht]
    have : nrmS t = clearS t := by unfold nrmS; rw [ht, if_pos rfl]
    rw [this]
    exact sub_clear (by rw [nrm_len, (hf.dec s).1]; exact h.1)

/-- What nothing takes away from, below s. -/
def Holdout (fs : List (Sto → Sto)) (s u : Sto) : Prop := SubS u (nrmS s) ∧ nrmS u = u ∧ ∀ f ∈ fs, SubS u (nrmS (f u))
/-- What is on its way to the greatest one. -/
def OnWay (fs : List (Sto → Sto)) (s t : Sto) : Prop := SubS t s ∧ ∀ u, Holdout fs s u → SubS u t
/-- The greatest one. -/
def Greatest (fs : List (Sto → Sto)) (s t : Sto) : Prop := Holdout fs s t ∧ ∀ u, Holdout fs s u → SubS u t

theorem onway_begin (fs : List (Sto → Sto)) (s : Sto) : OnWay fs s s := ⟨SubS.refl _, fun _ hu => hu.1.trans (sub_nrm s)⟩
/-- .. a step's answer itself, where no variable is asked yet whether it has none. -/
theorem onway_raw {fs : List (Sto → Sto)} {s t : Sto} (h : OnWay fs s t) (f : Sto → Sto) (hf : f ∈ fs) (hok : StepOk f) : OnWay fs s (f t) :=
  ⟨(hok.dec t).trans h.1, fun u hu => ((hu.2.2 f hf).trans (step_nrm hok (h.2 u hu))).trans (sub_nrm _)⟩
theorem onway_clear {fs : List (Sto → Sto)} {s t : Sto} (h : OnWay fs s t) (hf : failedS t = true) (hok : ∀ f ∈ fs, StepOk f) : Greatest fs s (clearS t) := by
  have hc := clear_failed t hf
  have hn : nrmS (clearS t) = clearS t := by unfold nrmS; rw [hc, if_pos rfl, clear_clear]
  refine ⟨⟨sub_clear (by rw [nrm_len]; exact h.1.1), hn, fun f hf2 => ?_⟩, fun u hu => ?_⟩
  · rw [(hok f hf2).stay _ hc, hn]; exact SubS.refl _
  · have h1 := h.2 u hu
    have h2 := sub_failed h1 hf
    have h3 : u = clearS u := by
      have := hu.2.1
      unfold nrmS at this
      rw [h2, if_pos rfl] at this
      exact this.symm
    rw [h3]
    exact sub_clear (by rw [clear_len]; exact h1.1)
theorem onway_end {fs : List (Sto → Sto)} {s t : Sto} (h : OnWay fs s t) (hf : failedS t = false) (hs : ∀ f ∈ fs, f t = t) : Greatest fs s t := by
  have hn : nrmS t = t := by unfold nrmS; rw [hf, if_neg (by simp)]
  have hsf : failedS s = false := by
    cases hq : failedS s
    · rfl
    · rw [sub_failed h.1 hq] at hf; cases hf
  have hsn : nrmS s = s := by unfold nrmS; rw [hsf, if_neg (by simp)]
  exact ⟨⟨by rw [hsn]; exact h.1, hn, fun f hf2 => by rw [hs f hf2, hn]; exact SubS.refl _⟩, h.2⟩
/-- One after the other. -/
def passS (fs : List (Sto → Sto)) (t : Sto) : Sto := fs.foldl (fun t f => f t) t
theorem pass_row : ∀ (fs : List (Sto → Sto)) (t : Sto), (∀ f ∈ fs, StepOk f) → RowSub (passS fs t) t
  | [], t, _ => RowSub.refl t
  | f :: fs, t, h => (pass_row fs (f t) fun g hg => h g (List.mem_cons_of_mem _ hg)).trans ((h f (List.mem_cons_self ..)).row t)
theorem pass_same : ∀ (fs : List (Sto → Sto)) (t : Sto), (∀ f ∈ fs, StepOk f) → sizeS (passS fs t) = sizeS t → ∀ f ∈ fs, f t = t
  | [], t, _, _ => fun f hf => by cases hf
  | f :: fs, t, h, he => by
    have h1 := row_size _ _ (pass_row fs (f t) fun g hg => h g (List.mem_cons_of_mem _ hg))
    have h2 := row_size _ _ ((h f (List.mem_cons_self ..)).row t)
    have e0 : passS (f :: fs) t = passS fs (f t) := rfl
    rw [e0] at he
    have e1 : f t = t := h2.2 (by omega)
    rw [e1] at he
    intro g hg
    rcases List.mem_cons.1 hg with rfl | hg
    · exact e1
    · exact pass_same fs t (fun g hg => h g (List.mem_cons_of_mem _ hg)) he g hg
theorem onway_pass {gs : List (Sto → Sto)} {s : Sto} : ∀ (fs : List (Sto → Sto)) (t : Sto), (∀ f ∈ fs, f ∈ gs ∧ StepOk f) → OnWay gs s t → OnWay gs s (passS fs t)
  | [], _, _, h => h
  | f :: fs, t, h, hw => onway_pass fs (f t) (fun g hg => h g (List.mem_cons_of_mem _ hg)) (onway_raw hw f (h f (List.mem_cons_self ..)).1 (h f (List.mem_cons_self ..)).2)
theorem pass_next (fs : List (Sto → Sto)) (k : Nat) (f : Sto → Sto) (t : Sto) (h : fs[k]? = some f) : passS (fs.take (k + 1)) t = f (passS (fs.take k) t) := by
  unfold passS
  rw [List.take_add_one, h, List.foldl_append]; rfl
theorem till_end {fs : List (Sto → Sto)} {s t : Sto} (hok : ∀ f ∈ fs, StepOk f) (h : OnWay fs s t) (hs : ∀ f ∈ fs, f t = t) : Greatest fs s (nrmS t) := by
  cases hf : failedS t
  · have : nrmS t = t := by unfold nrmS; rw [hf, if_neg (by simp)]
    rw [this]
    exact onway_end h hf hs
  · have : nrmS t = clearS t := by unfold nrmS; rw [hf, if_pos rfl]
    rw [this]
    exact onway_clear h hf hok

theorem rows_eq : ∀ (a b : List Int), a.Pairwise (· < ·) → b.Pairwise (· < ·) → (∀ x, x ∈ a ↔ x ∈ b) → a = b
  | [], [], _, _, _ => rfl
  | [], y :: b, _, _, h => by have := (h y).2 (List.mem_cons_self ..); cases this
  | x :: a, [], _, _, h => by have := (h x).1 (List.mem_cons_self ..); cases this
  | x :: a, y :: b, ha, hb, h => by
    obtain ⟨h1, h2⟩ := List.pairwise_cons.1 ha
    obtain ⟨k1, k2⟩ := List.pairwise_cons.1 hb
    have hxy : x = y := by
      rcases List.mem_cons.1 ((h x).1 (List.mem_cons_self ..)) with e | e
      · exact e
      · rcases List.mem_cons.1 ((h y).2 (List.mem_cons_self ..)) with f | f
        · exact f.symm
        · have := k1 x e; have := h1 y f; omega
    subst hxy
    congr 1
    refine rows_eq a b h2 k2 fun z => ?_
    constructor
    · intro hz
      rcases List.mem_cons.1 ((h z).1 (List.mem_cons_of_mem _ hz)) with e | e
      · have := h1 z hz; omega
      · exact e
    · intro hz
      rcases List.mem_cons.1 ((h z).2 (List.mem_cons_of_mem _ hz)) with e | e
      · have := k1 z hz; omega
      · exact e
/-- Two right stores that are within one another are the same. -/
theorem sub_antisymm {a b : Sto} (ha : a.all risesB = true) (hb : b.all risesB = true) (h : SubS a b) (k : SubS b a) : a = b := by
  refine sto_ext a b h.1 fun i r q hr hq => ?_
  refine rows_eq r q ((rises_pair _).1 (List.all_eq_true.1 ha _ (List.mem_of_getElem? hr))) ((rises_pair _).1 (List.all_eq_true.1 hb _ (List.mem_of_getElem? hq))) fun x => ⟨h.2 i r q hr hq x, k.2 i q r hq hr x⟩
theorem sub_within {a b : Sto} (h : SubS a b) : withinS a b = true := by
  unfold withinS
  rw [all_zip]
  intro i r q hr hq
  exact (withinR_iff _ _).2 (h.2 i r q hr hq)
theorem within_sub {a b : Sto} (hl : a.length = b.length) (h : withinS a b = true) : SubS a b := by
  unfold withinS at h
  rw [all_zip] at h
  exact ⟨hl, fun i r q hr hq => (withinR_iff _ _).1 (h i r q hr hq)⟩

/-- DONE TWICE IT IS DONE ONCE. -/
theorem great_again {fs : List (Sto → Sto)} {s t t2 : Sto} (h : Greatest fs s t) (h2 : Greatest fs t t2) (ht : t.all risesB = true) (ht2 : t2.all risesB = true) : t2 = t := by
  have hn : nrmS t = t := h.1.2.1
  refine sub_antisymm ht2 ht ?_ (h2.2 t ⟨by rw [hn]; exact SubS.refl _, hn, h.1.2.2⟩)
  have := h2.1.1
  rwa [hn] at this
/-- ALL TOGETHER LEAVE NO MORE THAN A PART DOES. -/
theorem great_part {fs gs : List (Sto → Sto)} {s t a : Sto} (h : Greatest fs s t) (k : Greatest gs s a) (hsub : ∀ g ∈ gs, g ∈ fs) : SubS t a :=
  k.2 t ⟨h.1.1, h.1.2.1, fun g hg => h.1.2.2 g (hsub g hg)⟩
/-- WHAT IS WITHIN IS WITHIN. -/
theorem great_less {fs : List (Sto → Sto)} {s less t k : Sto} (h : Greatest fs s t) (h2 : Greatest fs less k) (hl : SubS less s) : SubS k t :=
  h.2 k ⟨h2.1.1.trans (nrm_mono hl), h2.1.2.1, h2.1.2.2⟩
/-- NO VALUES THAT EVERY STEP KEEPS ARE LOST. -/
theorem great_keeps {fs : List (Sto → Sto)} {s t : Sto} (h : Greatest fs s t) (vals : List Int) (hs : hasS s vals = true) (hk : ∀ f ∈ fs, ∀ u : Sto, u.length = s.length → hasS u vals = true → hasS (f u) vals = true) : hasS t vals = true := by
  let u : Sto := vals.map fun x => [x]
  have hs2 := (hasS_iff s vals).1 hs
  have hul : u.length = s.length := by simp [u, hs2.1]
  have huget : ∀ (k : Nat) r, u[k]? = some r → ∃ x, vals[k]? = some x ∧ r = [x] := by
    intro k r hr
    simp only [u, List.getElem?_map] at hr
    obtain ⟨x, hx, rfl⟩ := Option.map_eq_some_iff.1 hr
    exact ⟨x, hx, rfl⟩
  have huh : hasS u vals = true := by
    rw [hasS_iff]
    refine ⟨by simp [u], fun k r x hr hx => ?_⟩
    obtain ⟨y, hy, rfl⟩ := huget k r hr
    rw [hx] at hy; cases hy
    exact List.mem_singleton.2 rfl
  have sub_of : ∀ a : Sto, a.length = s.length → hasS a vals = true → SubS u a := by
    intro a hal ha
    rw [hasS_iff] at ha
    refine ⟨by rw [hul, hal], fun k r q hr hq x hx => ?_⟩
    obtain ⟨y, hy, rfl⟩ := huget k r hr
    rw [List.mem_singleton.1 hx]
    exact ha.2 k q y hq hy
  have nrm_of : ∀ a : Sto, hasS a vals = true → nrmS a = a := by
    intro a ha
    unfold nrmS
    rw [has_not_failed a vals ha, if_neg (by simp)]
  have hu : Holdout fs s u := by
    refine ⟨by rw [nrm_of s hs]; exact sub_of s rfl hs, nrm_of u huh, fun f hf => ?_⟩
    have hfu := hk f hf u hul huh
    rw [nrm_of (f u) hfu]
    have hl := ((hasS_iff _ _).1 hfu).1
    exact sub_of (f u) (by rw [hl]; exact hs2.1.symm) hfu
  have hut := h.2 u hu
  rw [hasS_iff]
  refine ⟨by rw [← hut.1, hul]; exact hs2.1, fun k r x hr hx => ?_⟩
  have hk2 : u[k]? = some [x] := by simp only [u, List.getElem?_map, hx]; rfl
  exact hut.2 k _ r hk2 hr x (List.mem_singleton.2 rfl)
theorem unit_step (c : Cla) : StepOk fun s => unitS s c where
  dec s := sub_unit s c
  row s := row_unit s c
  mono s t h ht hs := unit_mono s t c h ht hs
  stay s h := by unfold unitS; rw [h, if_pos rfl]
theorem great_unique {fs : List (Sto → Sto)} {s t t2 : Sto} (h : Greatest fs s t) (h2 : Greatest fs s t2) (ht : t.all risesB = true) (ht2 : t2.all risesB = true) : t2 = t :=
  sub_antisymm ht2 ht (h.2 _ h2.1) (h2.2 _ h.1)
theorem checkV_nrm (vs : List MVar) (s : Sto) (h : checkV vs s = 0) : checkV vs (nrmS s) = 0 := by
  unfold nrmS
  split
  · rw [clear_sift]; exact checkV_sift _ _ _ h
  · exact h
theorem checkV_pass (vs : List MVar) : ∀ (fs : List (Sto → Sto)) (t : Sto), (∀ f ∈ fs, ∀ u, checkV vs u = 0 → checkV vs (f u) = 0) → checkV vs t = 0 → checkV vs (passS fs t) = 0
  | [], _, _, h => h
  | f :: fs, t, h, ht => checkV_pass vs fs (f t) (fun g hg => h g (List.mem_cons_of_mem _ hg)) (h f (List.mem_cons_self ..) t ht)
end Go.Proofs.YtdjbejlbmaiocagGreatDoor
/-
  WALK: package truth: Lit.
-/
namespace Go.Proofs.YtdjbejlbmaiocagGreatDoor
open Go.RowKit

def litAgg (l : MLit) : Value := .agg #[.int .i64 l.var, .int .i64 l.op, .int .i64 l.n]
set_option maxHeartbeats 800000 in
set_option maxRecDepth 100000 in
theorem lit_true (l : MLit) (x : Int) (w : World) :
    Calls Tryz.prog 108 #[.agg #[.int .i64 l.var, .int .i64 l.op, .int .i64 l.n], .int .i64 x] w fun e w' => e = .returned (.bool (litV x l)) ∧ Below w.heap.size w w' := by
  obtain ⟨R, hR⟩ : ∃ R, litV x l = R := ⟨_, rfl⟩
  rw [hR]
  have hE : R = if l.op = 1 then decide (x ≤ l.n) else if l.op = 2 then decide (l.n ≤ x) else if l.op = 3 then x == l.n else if l.op = 4 then x != l.n else false := by
    rw [← hR]; rfl
  clear hR
  by_cases q1 : l.op = 1
  · have HE : Hid (R = decide (x ≤ l.n)) := by rw [hE, if_pos q1]; rfl
    rw [q1]; clear hE q1
    go_enter Tryz.func108, Tryz.ntmps108
    go_wp2
    go_ret
    exact ⟨ret_bool HE.out.symm, below_alloc _ _⟩
  · by_cases q2 : l.op = 2
    · have HE : Hid (R = decide (l.n ≤ x)) := by rw [hE, if_neg q1, if_pos q2]; rfl
      rw [q2]; clear hE q1 q2
      go_enter Tryz.func108, Tryz.ntmps108
      go_wp2
      go_ret
      exact ⟨ret_bool HE.out.symm, below_alloc _ _⟩
    · by_cases q3 : l.op = 3
      · have HE : Hid (R = (x == l.n)) := by rw [hE, if_neg q1, if_neg q2, if_pos q3]; rfl
        rw [q3]; clear hE q1 q2 q3
        go_enter Tryz.func108, Tryz.ntmps108
        go_wp2
        go_ret
        exact ⟨ret_bool HE.out.symm, below_alloc _ _⟩
      · by_cases q4 : l.op = 4
        · have HE : Hid (R = (x != l.n)) := by rw [hE, if_neg q1, if_neg q2, if_neg q3, if_pos q4]; rfl
          rw [q4]; clear hE q1 q2 q3 q4
          go_enter Tryz.func108, Tryz.ntmps108
          go_wp2
          go_ret
          exact ⟨ret_bool HE.out.symm, below_alloc _ _⟩
        · have HE : Hid (R = false) := by rw [hE, if_neg q1, if_neg q2, if_neg q3, if_neg q4]; rfl
          have g1 : (l.op == 1) = false := by simpa using q1
          have g2 : (l.op == 2) = false := by simpa using q2
          have g3 : (l.op == 3) = false := by simpa using q3
          have g4 : (l.op == 4) = false := by simpa using q4
          clear hE q1 q2 q3 q4
          go_enter Tryz.func108, Tryz.ntmps108
          go_wp2
          go_ret
          exact ⟨ret_bool HE.out.symm, below_alloc _ _⟩
end Go.Proofs.YtdjbejlbmaiocagGreatDoor
/-
  PLAIN: what a constraint's 'holds' says. WALKS: package truth: oneIf, valuesOf.
-/
namespace Go.Proofs.YtdjbejlbmaiocagGreatDoor
open Go.RowKit

def valAt (vals : List Int) (v : Int) : Int := vals.getD v.toNat 0
def ownV (vars vals : List Int) : List Int := vars.map (valAt vals)
def sumV (consts own : List Int) : Int := (List.zipWith (· * ·) consts own).sum
def litB (vals : List Int) (l : MLit) : Bool := litV (valAt vals l.var) l
def maxV : List Int → Int
  | [] => 0
  | a :: r => r.foldl max a
def holdsC (c : MCon) (vals : List Int) : Bool :=
  if c.kind = 1 then decide (sumV c.consts (ownV c.vars vals) ≤ c.n)
  else if c.kind = 2 then sumV c.consts (ownV c.vars vals) == c.n
  else if c.kind = 3 then sumV c.consts (ownV c.vars vals) != c.n
  else if c.kind = 4 then decide (ownV c.vars vals).Nodup
  else if c.kind = 5 then decide (0 ≤ (ownV c.vars vals).getD 0 0) && (decide ((ownV c.vars vals).getD 0 0 < c.consts.length) && (c.consts.getD ((ownV c.vars vals).getD 0 0).toNat 0 == (ownV c.vars vals).getD 1 0))
  else if c.kind = 6 then c.rows.any fun r => decide (r = ownV c.vars vals)
  else if c.kind = 7 then (ownV c.vars vals).getD 0 0 * (ownV c.vars vals).getD 1 0 == (ownV c.vars vals).getD 2 0
  else if c.kind = 8 then (ownV c.vars vals).getD 0 0 == maxV ((ownV c.vars vals).drop 1)
  else if c.kind = 9 then c.lits.any (litB vals)
  else if c.kind = 10 then (ownV c.vars vals).getD 0 0 == (if litB vals (c.lits.getD 0 ⟨0, 0, 0⟩) then 1 else 0)
  else false

theorem valAt_get (vals : List Int) (k : Nat) (x : Int) (h : vals[k]? = some x) : valAt vals (k : Int) = x := by
  unfold valAt; rw [Int.toNat_natCast, List.getD_eq_getElem?_getD, h]; rfl

set_option maxHeartbeats 400000 in
theorem oneif_any (b : Bool) (w : World) : Calls Tryz.prog 107 #[.bool b] w fun e w' => e = .returned (.int .i64 (if b then 1 else 0)) ∧ w' = w := by
  cases b
  · go_enter Tryz.func107, Tryz.ntmps107
    go_wp2
    go_ret
    exact ⟨rfl, rfl⟩
  · go_enter Tryz.func107, Tryz.ntmps107
    go_wp2
    go_ret
    exact ⟨rfl, rfl⟩

theorem Tryz.infoInt0 : (Tryz.prog.info? 3).map (fun i => (i.zero, i.size, i.bytes)) = some (some (.int .i64 0), 1, 8) := by kernel_rfl
theorem Tryz.underInts0 : Tryz.prog.underlying 26 = some (.slice 3) := by kernel_rfl
/-- Numbers are made: all nought. -/
theorem make_ints (n : Nat) (hn : n ≤ 1000) (w : World) : ∃ w', Sem.run Tryz.prog (Instr.makeSlice 26 (.int .i64 (n : Int)) (.int .i64 (n : Int))) w = .ok (.slice (some ⟨w.heap.size, 0, none⟩) n n) w' ∧
    w'.ownsRow w.heap.size 3 1 (.slice (some ⟨w.heap.size, 0, none⟩) n n) n (List.replicate n (.int .i64 0)) ∧ Below w.heap.size w w' := by
  obtain ⟨i0, hi, hz0, hz1, hz2⟩ := info_parts Tryz.infoInt0
  obtain ⟨w', hrun, hown, hg⟩ := run_makeSlice_full w w.heap.size 26 3 i0 (.int .i64 0) 1 Tryz.underInts0 hi hz0 hz1 .i64 .i64 n (by omega) (by rw [hz2]; omega) (by unfold maxLen; omega) (Nat.le_refl _)
  refine ⟨w', hrun, ?_, (Below.refl _ _).grown hg (Nat.le_refl _) (fun k h => by cases h)⟩
  have : (Value.int .i64 0).cells = #[.int .i64 0] := rfl
  rw [this, Nat.mul_one, toList_madeCells_one] at hown
  exact hown

/-- Numbers of one's own, as a list. -/
theorem own_ints {w : World} {base : Nat} {v : Value} {r : List Int} (h : w.ownsRow base 3 1 v r.length (r.map (Value.int .i64))) : IArg w v r := by
  rcases h.2 with ⟨rfl, hn⟩ | ⟨g, cap, cur, rfl, hg, hh, hc1, hc2, _, _⟩
  · have : r = [] := List.eq_nil_of_length_eq_zero hn
    subst this
    exact ⟨none, 0, rfl, ⟨Nat.le_refl _, Nat.zero_le _⟩, fun i z hz => by simp at hz⟩
  · refine ⟨_, cap, rfl, ⟨hc1, hc2⟩, fun i z hz => ⟨g, 0, rfl, (Array.getElem?_eq_some_iff.1 hh).1, ?_⟩⟩
    have hi : i < r.length := (List.getElem?_eq_some_iff.1 hz).1
    rw [Nat.zero_add, h.cellAt i (by omega), List.getElem?_map, hz]; rfl

set_option maxHeartbeats 800000 in
set_option maxRecDepth 100000 in
theorem values_of (vars vals : List Int) (u v : Value) (w : World) (hu : IArg w u vars) (hv : IArg w v vals) (hn : vars.length ≤ 4) (hr : ∀ x ∈ vars, 0 ≤ x ∧ x < vals.length) :
    Calls Tryz.prog 99 #[u, v] w fun e w' => ∃ x, e = .returned x ∧ IArg w' x (ownV vars vals) ∧ Below w.heap.size w w' := by
  obtain ⟨a, c, rfl, hm, h1⟩ := hu
  obtain ⟨a', c', rfl, hm', h2⟩ := hv
  have HU : Hid (∀ (i : Nat) (z : Int), vars[i]? = some z → ∃ b off, a = some ⟨b, off, none⟩ ∧ b < w.heap.size ∧ w.cell? ⟨b, off + i, none⟩ = some (.int .i64 z)) := h1
  have HV : Hid (∀ (i : Nat) (z : Int), vals[i]? = some z → ∃ b off, a' = some ⟨b, off, none⟩ ∧ b < w.heap.size ∧ w.cell? ⟨b, off + i, none⟩ = some (.int .i64 z)) := h2
  have HR : Hid (∀ x ∈ vars, 0 ≤ x ∧ x < vals.length) := hr
  unfold maxLen at hm hm'
  obtain ⟨hm1, hm⟩ := hm
  obtain ⟨hm1', hm'⟩ := hm'
  obtain ⟨wm, hrun, hown, hbm⟩ := make_ints vars.length (by omega) w
  have HOWN : Hid (wm.ownsRow w.heap.size 3 1 (.slice (some ⟨w.heap.size, 0, none⟩) vars.length vars.length) vars.length (List.replicate vars.length (.int .i64 0))) := hown
  have HBM : Hid (Below w.heap.size w wm) := hbm
  clear h1 h2 hr hown hbm
  go_enter Tryz.func99, Tryz.ntmps99
  go_wp2_with fail
  clear hrun
  go_loopw [13] (fun i wr => ∃ (k : Nat) (cells : List Value), k ≤ vars.length ∧ i = .int .i64 k ∧ wr.ownsRow w.heap.size 3 1 (.slice (some ⟨w.heap.size, 0, none⟩) vars.length vars.length) vars.length cells ∧ Hid (cells.take k = ((ownV vars vals).take k).map (Value.int .i64)) ∧ Below w.heap.size w wr) (fun i _ => vars.length - (intOf i).toNat)
  case atStart => exact ⟨0, _, by omega, rfl, HOWN.out, rfl, HBM.out⟩
  case round =>
    obtain ⟨k, cells, hk, rfl, hown, htk, hbw⟩ := hrel
    by_cases hlt : k < vars.length
    · obtain ⟨z, hz⟩ : ∃ z, vars[k]? = some z := ⟨vars[k], by simp [hlt]⟩
      obtain ⟨hz0, hz1⟩ := HR.out z (List.mem_of_getElem? hz)
      obtain ⟨j, rfl⟩ : ∃ j : Nat, z = (j : Int) := ⟨z.toNat, by omega⟩
      have hjl : j < vals.length := by omega
      obtain ⟨x, hx⟩ : ∃ x, vals[j]? = some x := ⟨vals[j], by simp [hjl]⟩
      have HO : Hid ((ownV vars vals)[k]? = some x) := by show _ = _; unfold ownV; rw [List.getElem?_map, hz]; show some _ = _; rw [valAt_get vals j x hx]
      obtain ⟨b, off, rfl, hb, hc⟩ := HU.out k _ hz
      obtain ⟨b', off', rfl, hb', hd⟩ := HV.out j x hx
      have e1 := (hbw.cell (p := ⟨b, off + k, none⟩) hb).trans hc
      have e2 := (hbw.cell (p := ⟨b', off' + j, none⟩) hb').trans hd
      have hlen : cells.length = vars.length := by have := hown.1; omega
      obtain ⟨y, hy⟩ : ∃ y, cells[k]? = some y := ⟨cells[k]'(by omega), by simp⟩
      have e3 : wr.cell? ⟨w.heap.size, k, none⟩ = some y := by rw [hown.cellAt k (by omega)]; exact hy
      have e4 := hown.frozenAt k
      have HST : Hid ((wr.setCell ⟨w.heap.size, k, none⟩ (.int .i64 x)).ownsRow w.heap.size 3 1 (.slice (some ⟨w.heap.size, 0, none⟩) vars.length vars.length) vars.length (cells.set k (.int .i64 x))) := (hown.stored k _).1
      have HTK : Hid ((cells.set k (.int .i64 x)).take (k + 1) = ((ownV vars vals).take (k + 1)).map (Value.int .i64)) := by
        show _ = _
        rw [List.take_add_one, List.take_add_one, HO.out, List.map_append, List.getElem?_set_self (by omega), List.take_set_of_le (Nat.le_refl _), htk.out]; rfl
      have HBW : Hid (Below w.heap.size w (wr.setCell ⟨w.heap.size, k, none⟩ (.int .i64 x))) := hbw.setCell (Nat.le_refl _) _
      clear hz hx hc hd hb hb' hown htk hbw hz0 hz1 hlen hy
      go_wp2
      go_roundw
      case rel => exact ⟨k + 1, _, by omega, by go_num, HST.out, HTK, HBW.out⟩
      case measure => simp [intOf]; omega
    · have hks : k = vars.length := by omega
      have hlen : cells.length = vars.length := by have := hown.1; omega
      have HC : Hid (cells = (ownV vars vals).map (Value.int .i64)) := by
        have h := htk.out
        rwa [List.take_of_length_le (by omega), List.take_of_length_le (by unfold ownV; simp; omega)] at h
      have HF : Hid (IArg wr (.slice (some ⟨w.heap.size, 0, none⟩) vars.length vars.length) (ownV vars vals)) := by
        rw [HC.out] at hown
        have : vars.length = (ownV vars vals).length := by simp [ownV]
        rw [this] at hown ⊢
        exact own_ints hown
      clear hks hlen hown htk
      go_wp2
      go_ret
      exact ⟨_, rfl, HF.out, hbw⟩
end Go.Proofs.YtdjbejlbmaiocagGreatDoor
/-
  WALKS: package model: sum, slices.Equal, Max over numbers.
-/
namespace Go.Proofs.YtdjbejlbmaiocagGreatDoor
open Go.RowKit

theorem mul_bound (x y : Int) (h1 : -1000 ≤ x) (h2 : x ≤ 1000) (h3 : -50 ≤ y) (h4 : y ≤ 50) : -50000 ≤ x * y ∧ x * y ≤ 50000 := by
  have key : (x * y).natAbs ≤ 50000 := by
    rw [Int.natAbs_mul]
    have := Nat.mul_le_mul (show x.natAbs ≤ 1000 by omega) (show y.natAbs ≤ 50 by omega)
    omega
  omega
def sumK (consts own : List Int) (k : Nat) : Int := ((List.zipWith (· * ·) consts own).take k).sum
theorem sumK_next (consts own : List Int) (k : Nat) (x y : Int) (hx : consts[k]? = some x) (hy : own[k]? = some y) : sumK consts own (k + 1) = sumK consts own k + x * y := by
  unfold sumK
  rw [List.take_add_one, List.getElem?_zipWith, hx, hy]
  simp [List.sum_append]

set_option maxHeartbeats 800000 in
set_option maxRecDepth 100000 in
theorem sum_any (consts own : List Int) (u v : Value) (w : World) (hu : IArg w u consts) (hv : IArg w v own) (hl : consts.length = own.length) (hn : consts.length ≤ 8)
    (hc : ∀ x ∈ consts, -1000 ≤ x ∧ x ≤ 1000) (ho : ∀ x ∈ own, -50 ≤ x ∧ x ≤ 50) :
    Calls Tryz.prog 100 #[u, v] w fun e w' => e = .returned (.int .i64 (sumV consts own)) ∧ w' = w := by
  obtain ⟨a, c, rfl, hm, h1⟩ := hu
  obtain ⟨a', c', rfl, hm', h2⟩ := hv
  have HU : Hid (∀ (i : Nat) (z : Int), consts[i]? = some z → ∃ b off, a = some ⟨b, off, none⟩ ∧ b < w.heap.size ∧ w.cell? ⟨b, off + i, none⟩ = some (.int .i64 z)) := h1
  have HV : Hid (∀ (i : Nat) (z : Int), own[i]? = some z → ∃ b off, a' = some ⟨b, off, none⟩ ∧ b < w.heap.size ∧ w.cell? ⟨b, off + i, none⟩ = some (.int .i64 z)) := h2
  have HL : Hid (consts.length = own.length) := hl
  have HC : Hid (∀ x ∈ consts, -1000 ≤ x ∧ x ≤ 1000) := hc
  have HO : Hid (∀ x ∈ own, -50 ≤ x ∧ x ≤ 50) := ho
  obtain ⟨R, hR⟩ : ∃ R, sumV consts own = R := ⟨_, rfl⟩
  rw [hR]
  have HR : Hid (sumV consts own = R) := hR
  unfold maxLen at hm hm'
  obtain ⟨hm1, hm⟩ := hm
  obtain ⟨hm1', hm'⟩ := hm'
  clear h1 h2 hl hc ho hR
  go_enter Tryz.func100, Tryz.ntmps100
  go_wp2_with fail
  go_loop [5, 10] (fun t i => ∃ (k : Nat) (s : Int), k ≤ consts.length ∧ i = .int .i64 k ∧ t = .int .i64 s ∧ Hid (sumK consts own k = s) ∧ (-50000 * (k : Int) ≤ s ∧ s ≤ 50000 * (k : Int))) (fun _ i => consts.length - (intOf i).toNat)
  case atStart => exact ⟨0, 0, by omega, rfl, rfl, rfl, by omega⟩
  case round =>
    obtain ⟨k, s, hk, rfl, rfl, hs, hb1, hb2⟩ := hrel
    by_cases hlt : k < consts.length
    · have hlt' : k < own.length := by rw [← HL.out]; exact hlt
      obtain ⟨x, hx⟩ : ∃ x, consts[k]? = some x := ⟨consts[k], by simp [hlt]⟩
      obtain ⟨y, hy⟩ : ∃ y, own[k]? = some y := ⟨own[k], by simp [hlt']⟩
      have HX : Hid (sumK consts own (k + 1) = s + x * y) := by show _ = _; rw [sumK_next consts own k x y hx hy, hs.out]
      obtain ⟨b, off, rfl, hb, hc⟩ := HU.out k x hx
      obtain ⟨b', off', rfl, hb', hd⟩ := HV.out k y hy
      have hxb := HC.out x (List.mem_of_getElem? hx)
      have hyb := HO.out y (List.mem_of_getElem? hy)
      obtain ⟨hp1, hp2⟩ := mul_bound x y hxb.1 hxb.2 hyb.1 hyb.2
      clear hx hy hb hb' hxb hyb
      go_wp2
      go_round
      case rel => exact ⟨k + 1, s + x * y, by omega, by go_num, by go_num, HX, by omega, by omega⟩
      case measure => simp [intOf]; omega
    · have HN : Hid (s = R) := by
        show _ = _
        rw [← hs.out, ← HR.out]; unfold sumK sumV
        rw [List.take_of_length_le (by rw [List.length_zipWith]; omega)]
      go_wp2
      go_ret
      exact ⟨ret_int HN.out, rfl⟩

theorem take_same0 {α : Type} (a b : List α) (m : Nat) (x : α) (h : a.take m = b.take m) (ha : a[m]? = some x) (hb : b[m]? = some x) : a.take (m + 1) = b.take (m + 1) := by
  rw [List.take_add_one, List.take_add_one, h, ha, hb]
theorem same_end0 {α : Type} (a b : List α) (m : Nat) (h : a.take m = b.take m) (ha : ¬ m < a.length) (hl : a.length = b.length) : a = b := by
  rwa [List.take_of_length_le (by omega), List.take_of_length_le (by omega)] at h
theorem not_same0 {α : Type} (a b : List α) (m : Nat) (x y : α) (ha : a[m]? = some x) (hb : b[m]? = some y) (h : x ≠ y) : a ≠ b := by
  intro e; subst e; rw [ha] at hb; cases hb; exact h rfl
set_option maxHeartbeats 800000 in
set_option maxRecDepth 100000 in
theorem equal_any (l k : List Int) (v u : Value) (w : World) (hv : IArg w v l) (hu : IArg w u k) :
    Calls Tryz.prog 104 #[v, u] w fun e w' => e = .returned (.bool (decide (l = k))) ∧ ∃ n, w' = w.drewN n := by
  obtain ⟨a, c, rfl, hm, hr⟩ := hv
  obtain ⟨a', c', rfl, hm', hr'⟩ := hu
  have HV : Hid (∀ (i : Nat) (z : Int), l[i]? = some z → ∃ b off, a = some ⟨b, off, none⟩ ∧ b < w.heap.size ∧ w.cell? ⟨b, off + i, none⟩ = some (.int .i64 z)) := hr
  have HV' : Hid (∀ (i : Nat) (z : Int), k[i]? = some z → ∃ b off, a' = some ⟨b, off, none⟩ ∧ b < w.heap.size ∧ w.cell? ⟨b, off + i, none⟩ = some (.int .i64 z)) := hr'
  obtain ⟨R, hR⟩ : ∃ R, decide (l = k) = R := ⟨_, rfl⟩
  rw [hR]
  have HR : Hid (decide (l = k) = R) := hR
  unfold maxLen at hm hm'
  obtain ⟨hm1, hm⟩ := hm
  obtain ⟨hm1', hm'⟩ := hm'
  clear hr hr' hR
  by_cases hl : l.length = k.length
  · have HL : Hid (l.length = k.length) := hl
    have g0 : ((l.length : Int) != (k.length : Int)) = false := by simp [hl]
    clear hl
    go_enter Tryz.func104, Tryz.ntmps104
    go_wp2_with fail
    go_loopw [13] (fun i wr => ∃ m : Nat, m ≤ l.length ∧ i = .int .i64 m ∧ Hid (l.take m = k.take m) ∧ ∃ n, wr = w.drewN n) (fun i _ => l.length - (intOf i).toNat)
    case atStart => exact ⟨0, by omega, rfl, rfl, 0, rfl⟩
    case round =>
      obtain ⟨m, hml, rfl, hall, nq, rfl⟩ := hrel
      by_cases hlt : m < l.length
      · have hlt' : m < k.length := by rw [← HL.out]; exact hlt
        obtain ⟨x, hx⟩ : ∃ x, l[m]? = some x := ⟨l[m], by simp [hlt]⟩
        obtain ⟨y, hy⟩ : ∃ y, k[m]? = some y := ⟨k[m], by simp [hlt']⟩
        obtain ⟨b, off, ha, hb, hc⟩ := HV.out m x hx
        obtain ⟨b', off', ha', hb', hd⟩ := HV'.out m y hy
        have HX : Hid (l[m]? = some x) := hx
        have HY : Hid (k[m]? = some y) := hy
        subst ha; subst ha'
        clear hx hy
        by_cases hq : x = y
        · subst hq
          have HN : Hid (l.take (m + 1) = k.take (m + 1)) := take_same0 l k m x hall.out HX.out HY.out
          go_wp2
          go_quiet (fail)
          go_wp2
          go_roundw
          case rel => exact ⟨m + 1, by omega, by go_num, HN, _, rfl⟩
          case measure => simp [intOf]; omega
        · have HN : Hid (R = false) := by rw [← HR.out]; exact decide_eq_false (not_same0 l k m x y HX.out HY.out hq)
          have hq2 : (x != y) = true := by simpa using hq
          clear hq
          go_wp2
          go_quiet (fail)
          go_wp2
          go_ret
          exact ⟨ret_bool HN.out.symm, _, drewN_drewN _ _ _⟩
      · have HN : Hid (R = true) := by rw [← HR.out]; exact decide_eq_true (same_end0 l k m hall.out hlt HL.out)
        go_wp2
        go_ret
        exact ⟨ret_bool HN.out.symm, _, rfl⟩
  · have HN : Hid (R = false) := by rw [← HR.out]; exact decide_eq_false (fun h => hl (by rw [h]))
    have g0 : ((l.length : Int) != (k.length : Int)) = true := by simp; omega
    clear hl
    go_enter Tryz.func104, Tryz.ntmps104
    go_wp2
    go_ret
    exact ⟨ret_bool HN.out.symm, 0, rfl⟩

theorem max_next (a : Int) (r : List Int) (k : Nat) (x : Int) (hx : r[k]? = some x) : (r.take (k + 1)).foldl max a = max ((r.take k).foldl max a) x := by
  rw [List.take_add_one, hx, List.foldl_append]; rfl
set_option maxHeartbeats 800000 in
set_option maxRecDepth 100000 in
theorem max_any (p : Int) (r : List Int) (v : Value) (w : World) (hv : IArg w v (p :: r)) :
    Calls Tryz.prog 105 #[v] w fun e w' => e = .returned (.int .i64 (r.foldl max p)) ∧ w' = w := by
  obtain ⟨a, c, rfl, hm, h1⟩ := hv
  have HU : Hid (∀ (i : Nat) (z : Int), (p :: r)[i]? = some z → ∃ b off, a = some ⟨b, off, none⟩ ∧ b < w.heap.size ∧ w.cell? ⟨b, off + i, none⟩ = some (.int .i64 z)) := h1
  obtain ⟨b, off, rfl, hb, hc⟩ := h1 0 p rfl
  rw [Nat.add_zero] at hc
  obtain ⟨R, hR⟩ : ∃ R, r.foldl max p = R := ⟨_, rfl⟩
  rw [hR]
  have HR : Hid (r.foldl max p = R) := hR
  unfold maxLen at hm
  obtain ⟨hm1, hm⟩ := hm
  obtain ⟨n, hn⟩ : ∃ n, (p :: r).length = n := ⟨_, rfl⟩
  rw [hn] at hm1 ⊢
  have HN : Hid (n = r.length + 1) := by rw [← hn]; rfl
  have hn1 : 1 ≤ n := by rw [← hn]; simp
  clear h1 hR hn
  go_enter Tryz.func105, Tryz.ntmps105
  go_wp2_with fail
  go_loop [3, 4] (fun t i => ∃ (k : Nat) (s : Int), k + 1 ≤ n ∧ i = .int .i64 ((k : Int) + 1) ∧ t = .int .i64 s ∧ Hid ((r.take k).foldl max p = s)) (fun _ i => n - (intOf i).toNat)
  case atStart => exact ⟨0, p, by omega, rfl, rfl, rfl⟩
  case round =>
    obtain ⟨k, s, hk, rfl, rfl, hs⟩ := hrel
    by_cases hlt : k + 1 < n
    · have hlr : k < r.length := by have := HN.out; omega
      obtain ⟨x, hx⟩ : ∃ x, r[k]? = some x := ⟨r[k], by simp [hlr]⟩
      have HX : Hid ((r.take (k + 1)).foldl max p = if s < x then x else s) := by show _ = _; rw [max_next p r k x hx, hs.out]; split <;> omega
      obtain ⟨b2, off2, hab, hb2, hd⟩ := HU.out (k + 1) x (by simpa using hx)
      cases hab
      clear hx hlr
      go_wp2
      go_round
      case rel => exact ⟨k + 1, _, by omega, by go_num, rfl, by first | exact HX | (have h9 := HX.out; show List.foldl max p (List.take (k + 1) r) = max s x; rw [h9]; split <;> omega)⟩
      case measure => simp [intOf]; omega
    · have HF : Hid (s = R) := by
        show _ = _
        rw [← hs.out, ← HR.out, List.take_of_length_le (by have := HN.out; omega)]
      go_wp2
      go_ret
      exact ⟨ret_int HF.out, rfl⟩
end Go.Proofs.YtdjbejlbmaiocagGreatDoor
/-
  WALKS: package truth: differ.
-/
namespace Go.Proofs.YtdjbejlbmaiocagGreatDoor
open Go.RowKit Go.Maps

theorem Tryz.intKey : Keyed Tryz.prog 3 := int_keyed Tryz.underlying3
theorem Tryz.zeroUnit (w : World) : (zeroValue 211).run Tryz.prog w = .ok (.agg #[]) w := by kernel_rfl
def setD {H : Type} (l : List Int) : DataW H := setOf (.agg []) (l.map (Lit.int .i64))
theorem any_lit (x : Int) : ∀ l : List Int, l.any ((fun y : Lit => y.sameKey (.int .i64 x)) ∘ Lit.int .i64) = l.contains x
  | [] => rfl
  | a :: r => by
    rw [List.any_cons, List.contains_cons, any_lit x r]
    congr 1
    show decide (IntKind.i64 = IntKind.i64 ∧ a = x) = (x == a)
    by_cases e : a = x
    · subst e
      simp
    · have e' : ¬ x = a := fun h => e h.symm
      simp [e, e']
theorem has_setD {H : Type} (l : List Int) (x : Int) : Maps.has (setD (H := H) l) (.int .i64 x) = l.contains x := by
  unfold setD
  rw [has_setOf _ _ _ (fun y hy => by obtain ⟨_, _, rfl⟩ := List.mem_map.1 hy; trivial), List.any_map]
  exact any_lit x _
theorem setD_next {H : Type} (l : List Int) (x : Int) : setD (H := H) (l ++ [x]) = (setD l).put (.int .i64 x) (.agg []) := by
  unfold setD; rw [List.map_append]; exact setOf_snoc _ _ _
theorem nodup_next (l : List Int) (k : Nat) (x : Int) (hx : l[k]? = some x) (h : (l.take k).Nodup) (hc : (l.take k).contains x = false) : (l.take (k + 1)).Nodup := by
  rw [List.take_add_one, hx]
  rw [List.nodup_append]
  refine ⟨h, by simp, fun a ha b hb => ?_⟩
  simp at hb
  subst hb
  intro e
  subst e
  have : (l.take k).contains a = true := by simpa using ha
  rw [hc] at this; cases this
theorem nodup_hit (l : List Int) (k : Nat) (x : Int) (hx : l[k]? = some x) (hc : (l.take k).contains x = true) : ¬ l.Nodup := by
  intro hn
  have hk : k < l.length := (List.getElem?_eq_some_iff.1 hx).1
  have h1 : x ∈ l.take k := by simpa using hc
  have h2 : x ∈ l.drop k := by rw [List.drop_eq_getElem_cons hk]; have : l[k] = x := by simpa [hk] using hx
                               rw [this]; exact List.mem_cons_self ..
  have h3 := hn
  rw [← List.take_append_drop k l, List.nodup_append] at h3
  exact h3.2.2 x h1 x h2 rfl

set_option maxHeartbeats 1600000 in
set_option maxRecDepth 100000 in
theorem differ_any (l : List Int) (v : Value) (w : World) (hv : IArg w v l) (hn : l.length ≤ 4) (hb0 : ∀ x ∈ l, -50 ≤ x ∧ x ≤ 50) :
    Calls Tryz.prog 101 #[v] w fun e w' => e = .returned (.bool (decide l.Nodup)) ∧ Below w.heap.size w w' := by
  obtain ⟨a, c, rfl, hm, hr⟩ := hv
  have HV : Hid (∀ (i : Nat) (z : Int), l[i]? = some z → ∃ b off, a = some ⟨b, off, none⟩ ∧ b < w.heap.size ∧ w.cell? ⟨b, off + i, none⟩ = some (.int .i64 z)) := hr
  have HB : Hid (∀ x ∈ l, -50 ≤ x ∧ x ≤ 50) := hb0
  obtain ⟨R, hR⟩ : ∃ R, decide l.Nodup = R := ⟨_, rfl⟩
  rw [hR]
  have HR : Hid (decide l.Nodup = R) := hR
  unfold maxLen at hm
  obtain ⟨hm1, hm⟩ := hm
  clear hr hR hb0
  have hmm := @run_makeMap Tryz.prog
  go_enter Tryz.func101, Tryz.ntmps101
  go_wp2_with fail
  clear hmm
  go_loopw [11] (fun i wr => ∃ k : Nat, k ≤ l.length ∧ i = .int .i64 k ∧ wr.ownsMap Tryz.prog 3 unitElem w.heap.size k (setD (H := Unit) (l.take k)) ∧ Hid ((l.take k).Nodup) ∧ Below w.heap.size w wr ∧ w.heap.size + 1 ≤ wr.heap.size) (fun i _ => l.length - (intOf i).toNat)
  case atStart => exact ⟨0, by omega, rfl, World.ownsMap_made _ _ _ _, by show List.Nodup _; simp, (Below.refl _ _).alloc (Nat.le_refl _) _, by simp⟩
  case round =>
    obtain ⟨k, hk, rfl, hown, hnd, hbw, hws⟩ := hrel
    by_cases hlt : k < l.length
    · obtain ⟨x, hx⟩ : ∃ x, l[k]? = some x := ⟨l[k], by simp [hlt]⟩
      obtain ⟨b, off, rfl, hb, hc⟩ := HV.out k x hx
      have e1 := (hbw.cell (p := ⟨b, off + k, none⟩) hb).trans hc
      have hxb := HB.out x (List.mem_of_getElem? hx)
      have hkey : keyOf Tryz.prog 3 (.int .i64 x) = some (.int .i64 x) := keyOf_int_mk Tryz.underlying3 (WalkArith.wf_i64 (by omega))
      have HX : Hid (l[k]? = some x) := hx
      clear hx hc hb
      cases hq : (l.take k).contains x
      · have HN : Hid ((l.take (k + 1)).Nodup) := nodup_next l k x HX.out hnd.out hq
        have HD : Hid (setD (H := Unit) (l.take (k + 1)) = (setD (l.take k)).put (.int .i64 x) (.agg [])) := by
          show _ = _; rw [List.take_add_one, HX.out]; exact setD_next _ _
        have hh : Maps.has (setD (H := Unit) (l.take k)) (.int .i64 x) = false := by rw [has_setD]; exact hq
        clear hq
        go_wp2_with (first
          | (at_lookup; refine wpList_lookup_own_unit _ rfl _ _ 210 rfl 3 211 Tryz.intKey Tryz.underlying210 (Tryz.zeroUnit _) w.heap.size k _ rfl hown _ _ rfl hkey ?_)
          | (at_mapUpdate; refine wpList_mapUpdate_own _ rfl _ _ _ 210 rfl 3 211 Tryz.intKey Tryz.underlying210 (unitElem (H := Unit)) w.heap.size k _ rfl (hown.alloc _) (by unfold maxLen; omega) _ _ _ rfl rfl hkey _ [] unitElem_mk ?_; intro w1 hown1 hgrow1)
          | go_in)
        have s1 := hgrow1.size
        simp at s1
        go_roundw
        case rel => exact ⟨k + 1, by omega, by go_num, by rw [HD.out]; exact hown1, HN, (hbw.alloc hbw.size _).grown hgrow1 (by simp; omega) (fun j hj => by cases hj; exact Nat.le_refl _), by omega⟩
        case measure => simp [intOf]; omega
      · have HN : Hid (R = false) := by rw [← HR.out]; exact decide_eq_false (nodup_hit l k x HX.out hq)
        have hh : Maps.has (setD (H := Unit) (l.take k)) (.int .i64 x) = true := by rw [has_setD]; exact hq
        clear hq
        go_wp2_with (first
          | (at_lookup; refine wpList_lookup_own_unit _ rfl _ _ 210 rfl 3 211 Tryz.intKey Tryz.underlying210 (Tryz.zeroUnit _) w.heap.size k _ rfl hown _ _ rfl hkey ?_)
          | go_in)
        go_ret
        exact ⟨ret_bool HN.out.symm, hbw.alloc hbw.size _⟩
    · have HN : Hid (R = true) := by
        have := hnd.out; rw [List.take_of_length_le (by omega)] at this; rw [← HR.out]; exact decide_eq_true this
      go_wp2
      go_ret
      exact ⟨ret_bool HN.out.symm, hbw⟩
end Go.Proofs.YtdjbejlbmaiocagGreatDoor
/-
  WALKS: package truth: slices.ContainsFunc over rows and over literals, with whatever closure of one capture.
-/
namespace Go.Proofs.YtdjbejlbmaiocagGreatDoor
open Go.RowKit

/-- A region that draws its order, whose operations read and whose callees make memory of their own: one walk, in whatever world that is as W was below. -/
theorem region_below {P : Program} {id : Nat} {Q : Exit → Act → World → Prop} {a : Act} {W : World} {l : List Oper} (hm : P.follows .mixedOrders = true) (hB : Region.lexB .any l.toArray = true)
    (h : wpQuiet P l.toArray (fun w' => Below W.heap.size W w') (fun a' => ∀ w', Below W.heap.size W w' → Q .normal a' w') l a) : (Code.region id l.toArray true).wp P Q a W :=
  wp_region_quiet (C := fun w' => Below W.heap.size W w') hm hB ⟨rfl, rfl, rfl, Nat.le_refl _, fun _ _ => rfl⟩ (by simpa using h)

theorem draws0 {w w' : World} {n : Nat} (h : w' = w.drewN n) : Below w.heap.size w w' := by rw [h]; exact below_drewN (Below.refl _ _) _
def ClosR (F : Nat) (c1 : Value) (p : List Int → Bool) (w : World) : Prop :=
  (∀ (args : Array Value) (w' : World), Sem.run Tryz.prog (callFunc F args) w' = .ok (.enter F args) w') ∧
  ∀ (r : List Int) (x : Value) (w' : World), Below w.heap.size w w' → IArg w' x r → Calls Tryz.prog F #[x, c1] w' fun e w'' => e = .returned (.bool (p r)) ∧ Below w'.heap.size w' w''
def ClosL (F : Nat) (caps : Array Value) (ls : List MLit) (p : MLit → Bool) (w : World) : Prop :=
  (∀ (args : Array Value) (w' : World), Sem.run Tryz.prog (callFunc F args) w' = .ok (.enter F args) w') ∧
  ∀ (l : MLit) (w' : World), l ∈ ls → Below w.heap.size w w' → Calls Tryz.prog F (#[.agg #[.int .i64 l.var, .int .i64 l.op, .int .i64 l.n]] ++ caps) w' fun e w'' => e = .returned (.bool (p l)) ∧ Below w'.heap.size w' w''
theorem any_hit0 {α : Type} (p : α → Bool) (l : List α) (m : Nat) (t : α) (ht : l[m]? = some t) (h : p t = true) : l.any p = true := List.any_eq_true.2 ⟨t, List.mem_of_getElem? ht, h⟩
theorem any_next0 {α : Type} (p : α → Bool) (l : List α) (m : Nat) (t : α) (ht : l[m]? = some t) (h0 : (l.take m).any p = false) (h : p t = false) : (l.take (m + 1)).any p = false := by
  rw [List.take_add_one, ht, List.any_append, h0]; simp [h]
theorem any_end0 {α : Type} (p : α → Bool) (l : List α) (m : Nat) (h : ¬ m < l.length) (h0 : (l.take m).any p = false) : l.any p = false := by
  rwa [List.take_of_length_le (by omega)] at h0

set_option maxHeartbeats 800000 in
set_option maxRecDepth 100000 in
theorem indexf_rows (F : Nat) (c1 : Value) (p : List Int → Bool) (l : List (List Int)) (v : Value) (w : World) (hv : RArg w v l) (hF : ClosR F c1 p w) :
    Calls Tryz.prog 158 #[v, .func (.func F) #[] #[c1]] w fun e w' => (∃ z : Int, e = .returned (.int .i64 z) ∧ decide (0 ≤ z) = l.any p) ∧ Below w.heap.size w w' := by
  obtain ⟨a, c, rfl, hm, hr⟩ := hv
  have HV : Hid (∀ (i : Nat) (r : List Int), l[i]? = some r → ∃ b off x, a = some ⟨b, off, none⟩ ∧ b < w.heap.size ∧ w.cell? ⟨b, off + i, none⟩ = some x ∧ IArg w x r) := hr
  obtain ⟨R, hR⟩ : ∃ R, l.any p = R := ⟨_, rfl⟩
  rw [hR]
  have HR : Hid (l.any p = R) := hR
  have HF : Hid (ClosR F c1 p w) := hF
  unfold maxLen at hm
  obtain ⟨hm1, hm⟩ := hm
  clear hr hR hF
  go_enter Tryz.func158, Tryz.ntmps158
  go_wp2_with fail
  go_loopw [8] (fun i wr => ∃ m : Nat, m ≤ l.length ∧ i = .int .i64 m ∧ Hid ((l.take m).any p = false) ∧ Below w.heap.size w wr) (fun i _ => l.length - (intOf i).toNat)
  case atStart => exact ⟨0, by omega, rfl, rfl, Below.refl _ _⟩
  case round =>
    obtain ⟨m, hml, rfl, hall, hbw⟩ := hrel
    by_cases hlt : m < l.length
    · obtain ⟨z, hz⟩ : ∃ z, l[m]? = some z := ⟨l[m], by simp [hlt]⟩
      obtain ⟨b, off, x, ha, hb, hc0, hx⟩ := HV.out m z hz
      have hc := (hbw.cell (p := ⟨b, off + m, none⟩) hb).trans hc0
      have HZ : Hid (l[m]? = some z) := hz
      have HX : Hid (IArg wr x z) := IArg.below hbw hx
      obtain ⟨a5, c5, rfl, _, _⟩ := hx
      subst ha
      clear hz hc0
      cases hq : p z
      · have HN : Hid ((l.take (m + 1)).any p = false) := any_next0 _ l m z HZ.out hall.out hq
        go_wp2_with fail
        rw [HF.out.1, Oper.upon_enter]
        refine (HF.out.2 z _ _ hbw HX.out).mono ?_
        rintro e w1 ⟨rfl, hb1⟩
        rw [hq]
        clear hq
        go_wp2
        go_roundw
        case rel => exact ⟨m + 1, by omega, by go_num, HN, hbw.trans (hb1.mono hbw.size)⟩
        case measure => simp [intOf]; omega
      · have HN : Hid (R = true) := by rw [← HR.out]; exact any_hit0 p l m z HZ.out hq
        go_wp2_with fail
        rw [HF.out.1, Oper.upon_enter]
        refine (HF.out.2 z _ _ hbw HX.out).mono ?_
        rintro e w1 ⟨rfl, hb1⟩
        rw [hq]
        clear hq
        go_wp2
        go_ret
        exact ⟨⟨_, rfl, by rw [HN.out]; simp⟩, hbw.trans (hb1.mono hbw.size)⟩
    · have HN : Hid (R = false) := by rw [← HR.out]; exact any_end0 _ l m hlt hall.out
      go_wp2
      go_ret
      exact ⟨⟨_, rfl, by rw [HN.out]; rfl⟩, hbw⟩

set_option maxHeartbeats 400000 in
theorem containsf_rows (F : Nat) (c1 : Value) (p : List Int → Bool) (l : List (List Int)) (v : Value) (w : World) (hv : RArg w v l) (hF : ClosR F c1 p w) :
    Calls Tryz.prog 102 #[v, .func (.func F) #[] #[c1]] w fun e w' => e = .returned (.bool (l.any p)) ∧ Below w.heap.size w w' := by
  go_enter Tryz.func102, Tryz.ntmps102
  go_wp2_with fail
  refine (indexf_rows F c1 p l v _ hv hF).mono ?_
  rintro e w1 ⟨⟨z, rfl, hz⟩, hb1⟩
  have HZ : Hid (decide (0 ≤ z) = l.any p) := hz
  clear hz
  go_wp2
  go_ret
  exact ⟨ret_bool HZ.out, hb1⟩

/-- What IndexFunc answers: one that is such, or that there is none. -/
def Found (p : MLit → Bool) (l : List MLit) (z : Int) : Prop := (z = -1 ∧ l.any p = false) ∨ ∃ (k : Nat) (t : MLit), z = (k : Int) ∧ l[k]? = some t ∧ p t = true
theorem Found.sign {p : MLit → Bool} {l : List MLit} {z : Int} (h : Found p l z) : decide (0 ≤ z) = l.any p := by
  rcases h with ⟨rfl, h⟩ | ⟨k, t, rfl, ht, hp⟩
  · rw [h]; rfl
  · rw [any_hit0 p l k t ht hp]; simp

set_option maxHeartbeats 800000 in
set_option maxRecDepth 100000 in
theorem indexf_lits (F : Nat) (caps : Array Value) (p : MLit → Bool) (l : List MLit) (v : Value) (w : World) (hv : LArg w v l) (hF : ClosL F caps l p w) :
    Calls Tryz.prog 223 #[v, .func (.func F) #[] caps] w fun e w' => (∃ z : Int, e = .returned (.int .i64 z) ∧ Found p l z) ∧ Below w.heap.size w w' := by
  obtain ⟨a, c, rfl, hm, hr⟩ := hv
  have HV : Hid (∀ (i : Nat) (t : MLit), l[i]? = some t → ∃ b off, a = some ⟨b, off, none⟩ ∧ b < w.heap.size ∧
    w.cell? ⟨b, off + i * 3, none⟩ = some (.int .i64 t.var) ∧ w.cell? ⟨b, off + i * 3 + 1, none⟩ = some (.int .i64 t.op) ∧ w.cell? ⟨b, off + i * 3 + 2, none⟩ = some (.int .i64 t.n)) := hr
  have HF : Hid (ClosL F caps l p w) := hF
  unfold maxLen at hm
  obtain ⟨hm1, hm⟩ := hm
  clear hr hF
  go_enter Tryz.func223, Tryz.ntmps223
  go_wp2_with fail
  go_loopw [8] (fun i wr => ∃ m : Nat, m ≤ l.length ∧ i = .int .i64 m ∧ Hid ((l.take m).any p = false) ∧ Below w.heap.size w wr) (fun i _ => l.length - (intOf i).toNat)
  case atStart => exact ⟨0, by omega, rfl, rfl, Below.refl _ _⟩
  case round =>
    obtain ⟨m, hml, rfl, hall, hbw⟩ := hrel
    by_cases hlt : m < l.length
    · obtain ⟨z, hz⟩ : ∃ z, l[m]? = some z := ⟨l[m], by simp [hlt]⟩
      obtain ⟨b, off, ha, hb, d0, d1, d2⟩ := HV.out m z hz
      have e0 := (hbw.cell (p := ⟨b, off + m * 3, none⟩) hb).trans d0
      have e1 := (hbw.cell (p := ⟨b, off + m * 3 + 1, none⟩) hb).trans d1
      have e2 := (hbw.cell (p := ⟨b, off + m * 3 + 2, none⟩) hb).trans d2
      have HZ : Hid (l[m]? = some z) := hz
      subst ha
      clear hz d0 d1 d2
      cases hq : p z
      · have HN : Hid ((l.take (m + 1)).any p = false) := any_next0 _ l m z HZ.out hall.out hq
        go_wp2_with fail
        rw [HF.out.1, Oper.upon_enter]
        refine (HF.out.2 z _ (List.mem_of_getElem? HZ.out) hbw).mono ?_
        rintro e w1 ⟨rfl, hb1⟩
        rw [hq]
        clear hq
        go_wp2
        go_roundw
        case rel => exact ⟨m + 1, by omega, by go_num, HN, hbw.trans (hb1.mono hbw.size)⟩
        case measure => simp [intOf]; omega
      · have HP : Hid (p z = true) := hq
        go_wp2_with fail
        rw [HF.out.1, Oper.upon_enter]
        refine (HF.out.2 z _ (List.mem_of_getElem? HZ.out) hbw).mono ?_
        rintro e w1 ⟨rfl, hb1⟩
        rw [hq]
        clear hq
        go_wp2
        go_ret
        exact ⟨⟨_, rfl, Or.inr ⟨m, z, rfl, HZ.out, HP.out⟩⟩, hbw.trans (hb1.mono hbw.size)⟩
    · have HN : Hid (l.any p = false) := any_end0 _ l m hlt hall.out
      go_wp2
      go_ret
      exact ⟨⟨_, rfl, Or.inl ⟨rfl, HN.out⟩⟩, hbw⟩

set_option maxHeartbeats 400000 in
theorem containsf_lits (F : Nat) (caps : Array Value) (p : MLit → Bool) (l : List MLit) (v : Value) (w : World) (hv : LArg w v l) (hF : ClosL F caps l p w) :
    Calls Tryz.prog 159 #[v, .func (.func F) #[] caps] w fun e w' => e = .returned (.bool (l.any p)) ∧ Below w.heap.size w w' := by
  go_enter Tryz.func159, Tryz.ntmps159
  go_wp2_with fail
  refine (indexf_lits F caps p l v _ hv hF).mono ?_
  rintro e w1 ⟨⟨z, rfl, hz⟩, hb1⟩
  have HZ : Hid (decide (0 ≤ z) = l.any p) := hz.sign
  clear hz
  go_wp2
  go_ret
  exact ⟨ret_bool HZ.out, hb1⟩

theorem enters_row (args : Array Value) (w' : World) : Sem.run Tryz.prog (callFunc 103 args) w' = .ok (.enter 103 args) w' := by
  simp [callFunc, go_sem, Tryz.func103, Tryz.f103]
theorem enters_litc (args : Array Value) (w' : World) : Sem.run Tryz.prog (callFunc 160 args) w' = .ok (.enter 160 args) w' := by
  simp [callFunc, go_sem, Tryz.func160, Tryz.f160]

set_option maxHeartbeats 400000 in
set_option maxRecDepth 100000 in
theorem row_same (own r : List Int) (v x : Value) (b : Nat) (w : World) (hv : IArg w v own) (hx : IArg w x r) (hb : w.cell? ⟨b, 0, none⟩ = some v) :
    Calls Tryz.prog 103 #[x, .pointer (some ⟨b, 0, none⟩)] w fun e w' => e = .returned (.bool (decide (r = own))) ∧ Below w.heap.size w w' := by
  have HV : Hid (IArg w v own) := hv
  have HX : Hid (IArg w x r) := hx
  obtain ⟨a, c, rfl, _, _⟩ := hv
  obtain ⟨a', c', rfl, _, _⟩ := hx
  go_enter Tryz.func103, Tryz.ntmps103
  go_wp2_with fail
  refine (equal_any r own _ _ _ HX.out HV.out).mono ?_
  rintro e w1 ⟨rfl, n, h1⟩
  have hb1 := draws0 h1
  clear h1
  go_wp2
  go_ret
  exact ⟨rfl, hb1⟩

set_option maxHeartbeats 800000 in
set_option maxRecDepth 100000 in
theorem lit_closed (vals : List Int) (l : MLit) (v : Value) (b : Nat) (w : World) (hv : IArg w v vals) (h0 : 0 ≤ l.var) (h1 : l.var < vals.length) (hb : w.cell? ⟨b, 0, none⟩ = some v) :
    Calls Tryz.prog 160 #[.agg #[.int .i64 l.var, .int .i64 l.op, .int .i64 l.n], .pointer (some ⟨b, 0, none⟩)] w fun e w' => e = .returned (.bool (litB vals l)) ∧ Below w.heap.size w w' := by
  obtain ⟨a, c, rfl, hm, hr⟩ := hv
  have hbl : b < w.heap.size := World.block_lt_of_cell? w _ hb
  obtain ⟨j, hj⟩ : ∃ j : Nat, l.var = (j : Int) := ⟨l.var.toNat, by omega⟩
  have hjl : j < vals.length := by omega
  obtain ⟨y, hy⟩ : ∃ y, vals[j]? = some y := ⟨vals[j], by simp [hjl]⟩
  obtain ⟨b7, off7, rfl, hb7, g7⟩ := hr j y hy
  unfold maxLen at hm
  obtain ⟨hm1, hm⟩ := hm
  have HBV : Hid (litB vals l = litV y l) := by show _ = _; unfold litB; rw [hj, valAt_get vals j y hy]
  rw [HBV.out]
  obtain ⟨B, HB⟩ : ∃ B : Bool, Hid (litV y l = B) := ⟨_, rfl⟩
  rw [HB.out, hj]
  obtain ⟨W, hW⟩ : ∃ W : World, W = w.alloc (.cells #[.int .i64 (j : Int), .int .i64 l.op, .int .i64 l.n] 88) := ⟨_, rfl⟩
  have HW : Hid (W = w.alloc (.cells #[.int .i64 (j : Int), .int .i64 l.op, .int .i64 l.n] 88)) := hW
  have HBW : Hid (Below w.heap.size w W) := by rw [hW]; exact below_alloc _ _
  have HSW : Hid (W.heap.size = w.heap.size + 1) := by show _ = _; rw [hW]; simp
  have k0 : W.cell? ⟨w.heap.size, 0, none⟩ = some (.int .i64 (j : Int)) := by rw [hW]; simp
  have k1 : W.cell? ⟨w.heap.size, 1, none⟩ = some (.int .i64 l.op) := by rw [hW]; simp
  have k2 : W.cell? ⟨w.heap.size, 2, none⟩ = some (.int .i64 l.n) := by rw [hW]; simp
  have k3 : W.cell? ⟨b, 0, none⟩ = some (.slice (some ⟨b7, off7, none⟩) vals.length c) := by rw [hW]; exact (World.cell?_alloc_past _ _ _ hbl).trans hb
  have k4 : W.cell? ⟨b7, off7 + j, none⟩ = some (.int .i64 y) := by rw [hW]; exact (World.cell?_alloc_past _ _ _ hb7).trans g7
  have HCL : Hid (∀ wq : World, Below W.heap.size W wq → Calls Tryz.prog 108 #[.agg #[.int .i64 (j : Int), .int .i64 l.op, .int .i64 l.n], .int .i64 y] wq fun e w' => e = .returned (.bool B) ∧ Below W.heap.size W w') := by
    intro wq hq
    rw [← hj]
    refine (lit_true l y wq).mono ?_
    rintro e w' ⟨rfl, hb⟩
    exact ⟨by rw [HB.out], hq.trans (hb.mono hq.size)⟩
  clear hW hr hy hj g7 hb HBV HB h0 h1
  go_enter Tryz.func160, Tryz.ntmps160
  go_wp2
  rw [← HW.out]
  refine region_below (by kernel_rfl) (by kernel_rfl) ?_
  go_big_quiet_want
  refine ⟨.agg #[.int .i64 (j : Int), .int .i64 l.op, .int .i64 l.n], fun wq hq => ?_, ?_⟩
  · have h0 := (hq.cell (p := ⟨w.heap.size, 0, none⟩) (by have := HSW.out; simp only; omega)).trans k0
    have h1 := (hq.cell (p := ⟨w.heap.size, 1, none⟩) (by have := HSW.out; simp only; omega)).trans k1
    have h2 := (hq.cell (p := ⟨w.heap.size, 2, none⟩) (by have := HSW.out; simp only; omega)).trans k2
    simp [Oper.quietAt, go_sem, h0, h1, h2]
  go_simp
  go_big_quiet_on
  go_big_quiet_want
  refine ⟨.slice (some ⟨b7, off7, none⟩) vals.length c, fun wq hq => ?_, ?_⟩
  · have h0 := (hq.cell (p := ⟨b, 0, none⟩) (by have := HSW.out; simp only; omega)).trans k3
    simp [Oper.quietAt, go_sem, h0]
  go_simp
  go_big_quiet_on
  go_big_quiet_want
  go_big_quiet_op
  first | go_big_quiet_on | (refine ⟨_, fun _ _ => rfl, ?_⟩; go_big_quiet_on)
  go_big_quiet_want
  refine ⟨.int .i64 (j : Int), fun wq hq => ?_, ?_⟩
  · have h0 := (hq.cell (p := ⟨w.heap.size, 0, none⟩) (by have := HSW.out; simp only; omega)).trans k0
    simp [Oper.quietAt, go_sem, h0]
  go_simp
  go_big_quiet_on
  go_big_quiet_want
  go_big_quiet_op
  first | go_big_quiet_on | (refine ⟨_, fun _ _ => rfl, ?_⟩; go_big_quiet_on)
  go_big_quiet_want
  refine ⟨.int .i64 y, fun wq hq => ?_, ?_⟩
  · have h0 := (hq.cell (p := ⟨b7, off7 + j, none⟩) (by have := HSW.out; simp only; omega)).trans k4
    simp [Oper.quietAt, go_sem, h0]
  go_simp
  go_big_quiet_on
  go_big_quiet_want
  refine ⟨.bool B, fun wq hq => ?_, ?_⟩
  · simp [Oper.quietAt, go_sem]
    exact HCL.out wq hq
  go_simp
  go_big_quiet_on
  go_big_quiet_want
  go_big_quiet_op
  first | go_big_quiet_on | (refine ⟨_, fun _ _ => rfl, ?_⟩; go_big_quiet_on)
  refine wpQuiet_nil ?_
  intro w' hw'
  have hb4 : Below w.heap.size w w' := HBW.out.trans (hw'.mono HBW.out.size)
  clear hw'
  go_wp2
  go_ret
  exact ⟨rfl, hb4⟩

set_option maxHeartbeats 400000 in
set_option maxRecDepth 100000 in
theorem clause_true (c : List MLit) (vals : List Int) (u v : Value) (w : World) (hu : LArg w u c) (hv : IArg w v vals) (hc : ∀ l ∈ c, 0 ≤ l.var ∧ l.var < (vals.length : Int)) :
    Calls Tryz.prog 106 #[u, v] w fun e w' => e = .returned (.bool (c.any (litB vals))) ∧ Below w.heap.size w w' := by
  have HUA : Hid (∀ w' : World, Below w.heap.size w w' → LArg w' u c) := fun w' h => LArg.below h hu
  have HVA : Hid (∀ w' : World, Below w.heap.size w w' → IArg w' v vals) := fun w' h => IArg.below h hv
  have HC : Hid (∀ l ∈ c, 0 ≤ l.var ∧ l.var < (vals.length : Int)) := hc
  obtain ⟨a1, c1, rfl, _, _⟩ := hu
  obtain ⟨a2, c2, rfl, _, _⟩ := hv
  clear hc
  go_enter Tryz.func106, Tryz.ntmps106
  go_wp2_with fail
  refine (containsf_lits 160 _ (litB vals) c _ _ (HUA.out _ (below_alloc _ _)) ⟨enters_litc, ?_⟩).mono ?_
  · intro l w' hl hb'
    exact lit_closed vals l _ w.heap.size w' (HVA.out _ ((below_alloc _ _).trans (hb'.mono (by simp)))) (HC.out l hl).1 (HC.out l hl).2 ((hb'.cell (by simp)).trans (by simp))
  rintro e w3 ⟨rfl, hb3⟩
  have hb4 : Below w.heap.size w w3 := (below_alloc _ _).trans (hb3.mono (by simp))
  clear hb3
  go_wp2
  go_ret
  exact ⟨rfl, hb4⟩
end Go.Proofs.YtdjbejlbmaiocagGreatDoor
/-
  WALK: package truth: Con.
-/
namespace Go.Proofs.YtdjbejlbmaiocagGreatDoor
open Go.RowKit

theorem con_facts (n : Int) (c : MCon) (h : conE n c = 0) : (1 ≤ c.kind ∧ c.kind ≤ 10) ∧ manyB c = false ∧ formB c = true ∧ varsB c n = true ∧ constsB c = true ∧ litsE c.lits = 0 := by
  unfold conE at h
  split at h
  · rename_i hk
    cases h1 : manyB c
    · cases h2 : formB c
      · rw [h1, h2] at h; simp at h
      · cases h3 : varsB c n
        · rw [h1, h2, h3] at h; simp at h
        · cases h4 : constsB c
          · rw [h1, h2, h3, h4] at h; simp at h
          · rw [h1, h2, h3, h4] at h; simp at h
            exact ⟨hk, rfl, rfl, rfl, rfl, h⟩
    · rw [h1] at h; simp at h
  · cases h

theorem ownV_bound (vars vals : List Int) (h : ∀ x ∈ vals, -50 ≤ x ∧ x ≤ 50) (x : Int) (hx : x ∈ ownV vars vals) : -50 ≤ x ∧ x ≤ 50 := by
  obtain ⟨v, _, rfl⟩ := List.mem_map.1 hx
  unfold valAt
  rw [List.getD_eq_getElem?_getD]
  cases hq : vals[v.toNat]? with
  | none => simp
  | some y => exact h y (List.mem_of_getElem? hq)
theorem ownV_len (vars vals : List Int) : (ownV vars vals).length = vars.length := by simp [ownV]
theorem vars_in (c : MCon) (n : Int) (h : varsB c n = true) : (∀ x ∈ c.vars, 0 ≤ x ∧ x < n) ∧ ∀ l ∈ c.lits, 0 ≤ l.var ∧ l.var < n := by
  unfold varsB at h
  rw [Bool.and_eq_true, List.all_eq_true, List.all_eq_true] at h
  exact ⟨fun x hx => by simpa [isVarB] using h.1 x hx, fun l hl => by simpa [isVarB] using h.2 l hl⟩
theorem consts_in (c : MCon) (h : constsB c = true) : ∀ x ∈ c.consts, -1000 ≤ x ∧ x ≤ 1000 := by
  unfold constsB at h
  rw [Bool.and_eq_true, List.all_eq_true] at h
  exact fun x hx => by simpa [isConstB, inB] using h.1 x hx
theorem many_not (c : MCon) (h : manyB c = false) : c.vars.length ≤ 4 ∧ c.lits.length ≤ 4 ∧ c.consts.length ≤ 8 ∧ c.rows.length ≤ 20 := by
  unfold manyB at h
  simp at h
  omega

set_option maxHeartbeats 3200000 in
set_option maxRecDepth 100000 in
theorem holds_any (c : MCon) (vals : List Int) (vv vc vr vl v : Value) (w : World) (hk : KArg w vv vc vr vl c) (hv : IArg w v vals) (hc : conE vals.length c = 0) (hb : ∀ x ∈ vals, -50 ≤ x ∧ x ≤ 50) :
    Calls Tryz.prog 54 #[conV vv vc vr vl c, v] w fun e w' => e = .returned (.bool (holdsC c vals)) ∧ Below w.heap.size w w' := by
  obtain ⟨⟨hk1, hk10⟩, hmany, hform, hvars, hconsts, hlits⟩ := con_facts _ _ hc
  obtain ⟨hn4, hl4, hc8, _⟩ := many_not c hmany
  have HVI : Hid (∀ x ∈ c.vars, 0 ≤ x ∧ x < (vals.length : Int)) := (vars_in c _ hvars).1
  have HLI : Hid (∀ l ∈ c.lits, 0 ≤ l.var ∧ l.var < (vals.length : Int)) := (vars_in c _ hvars).2
  have HCI : Hid (∀ x ∈ c.consts, -1000 ≤ x ∧ x ≤ 1000) := consts_in c hconsts
  have HOB : Hid (∀ x ∈ ownV c.vars vals, -50 ≤ x ∧ x ≤ 50) := ownV_bound c.vars vals hb
  have HKA : Hid (∀ w' : World, Below w.heap.size w w' → KArg w' vv vc vr vl c) := fun w' h => KArg.below h hk
  have HVA : Hid (∀ w' : World, Below w.heap.size w w' → IArg w' v vals) := fun w' h => IArg.below h hv
  have HFO : Hid (formB c = true) := hform
  obtain ⟨⟨a1, c1, rfl, _, _⟩, ⟨a2, c2, rfl, hm2, _⟩, ⟨a3, c3, rfl, _, _⟩, ⟨a4, c4, rfl, hm4, _⟩⟩ := hk
  obtain ⟨a5, c5, rfl, _, _⟩ := hv
  unfold maxLen at hm2 hm4
  obtain ⟨hm21, hm2⟩ := hm2
  obtain ⟨hm41, hm4⟩ := hm4
  obtain ⟨R, hR⟩ : ∃ R, holdsC c vals = R := ⟨_, rfl⟩
  rw [hR]
  have HR : Hid (holdsC c vals = R) := hR
  unfold conV
  clear hR hc hb hmany hform hvars hconsts hlits
  go_enter Tryz.func54, Tryz.ntmps54
  go_wp2_with fail
  refine (values_of c.vars vals _ _ _ ?_ ?_ hn4 HVI.out).mono ?_
  · exact (HKA.out _ (below_alloc _ _)).1
  · exact HVA.out _ (below_alloc _ _)
  rintro e w1 ⟨x, rfl, hx, hb1⟩
  have d0 : w1.cell? ⟨w.heap.size, 0, none⟩ = some (.int .i64 c.kind) := (hb1.cell (by simp)).trans (by simp)
  have d2 : w1.cell? ⟨w.heap.size, 2, none⟩ = some (.slice a2 c.consts.length c2) := (hb1.cell (by simp)).trans (by simp)
  have d3 : w1.cell? ⟨w.heap.size, 3, none⟩ = some (.int .i64 c.n) := (hb1.cell (by simp)).trans (by simp)
  have d4 : w1.cell? ⟨w.heap.size, 4, none⟩ = some (.slice a3 c.rows.length c3) := (hb1.cell (by simp)).trans (by simp)
  have d5 : w1.cell? ⟨w.heap.size, 5, none⟩ = some (.slice a4 c.lits.length c4) := (hb1.cell (by simp)).trans (by simp)
  have hs1 : w.heap.size + 1 ≤ w1.heap.size := by simpa using hb1.size
  have HB1 : Hid (Below w.heap.size w w1) := (below_alloc _ _).trans (hb1.mono (by simp))
  have HX : Hid (∀ w' : World, Below w1.heap.size w1 w' → IArg w' x (ownV c.vars vals)) := fun w' h => IArg.below h hx
  obtain ⟨own, HOWN⟩ : ∃ own, Hid (ownV c.vars vals = own) := ⟨_, rfl⟩
  have HOL : Hid (own.length = c.vars.length) := by rw [← HOWN.out]; exact ownV_len _ _
  rw [HOWN.out] at HX HOB hx
  obtain ⟨a6, c6, rfl, hm6, h6⟩ := hx
  unfold maxLen at hm6
  obtain ⟨hm61, hm6⟩ := hm6
  have H6 : Hid (∀ (i : Nat) (z : Int), own[i]? = some z → ∃ b off, a6 = some ⟨b, off, none⟩ ∧ b < w1.heap.size ∧ w1.cell? ⟨b, off + i, none⟩ = some (.int .i64 z)) := h6
  clear hb1 h6
  have hl0 : w.heap.size < w1.heap.size := by omega
  have HB2 : Hid (Below w.heap.size w (w1.alloc (.cells #[.slice a6 own.length c6] 26))) := HB1.out.trans ((below_alloc _ _).mono (by omega))
  obtain ⟨kd, hkd⟩ : ∃ kd, c.kind = kd := ⟨_, rfl⟩
  have HKD : Hid (c.kind = kd) := hkd
  rw [hkd] at d0 hk1 hk10
  clear hkd hs1
  have HN : Hid (R = true ∨ R = false) := by cases R <;> simp [Hid]
  have hcases : kd = 1 ∨ kd = 2 ∨ kd = 3 ∨ kd = 4 ∨ kd = 5 ∨ kd = 6 ∨ kd = 7 ∨ kd = 8 ∨ kd = 9 ∨ kd = 10 := by omega
  clear hk1 hk10
  rcases hcases with rfl | rfl | rfl | rfl | rfl | rfl | rfl | rfl | rfl | rfl
  · -- kind 1
    have HL : Hid (c.consts.length = own.length) := by
      have h := HFO.out
      unfold formB at h
      rw [HKD.out] at h
      simp at h
      exact h.2.1.trans HOL.out.symm
    have HE : Hid (R = decide (sumV c.consts own ≤ c.n)) := by rw [← HR.out, ← HOWN.out]; unfold holdsC; rw [HKD.out]; rfl
    have HS : Hid (∀ n, Calls Tryz.prog 100 #[.slice a2 c.consts.length c2, .slice a6 own.length c6] ((w1.alloc (.cells #[.slice a6 own.length c6] 26)).drewN n) fun e w' => e = .returned (.int .i64 (sumV c.consts own)) ∧ ∃ k, w' = (w1.alloc (.cells #[.slice a6 own.length c6] 26)).drewN k) := by
      intro n
      refine (sum_any c.consts own _ _ _ ((HKA.out _ (below_drewN HB2.out n)).2.1) (HX.out _ (below_drewN (below_alloc _ _) n)) HL.out hc8 HCI.out HOB.out).mono ?_
      rintro e w' ⟨rfl, rfl⟩
      exact ⟨rfl, n, rfl⟩
    go_wp2
    go_quiet ((go_at_call 100; exact HS.out _))
    go_wp2
    go_ret
    exact ⟨ret_bool HE.out.symm, below_drewN HB2.out _⟩
  · -- kind 2
    have HL : Hid (c.consts.length = own.length) := by
      have h := HFO.out
      unfold formB at h
      rw [HKD.out] at h
      simp at h
      exact h.2.1.trans HOL.out.symm
    have HE : Hid (R = (sumV c.consts own == c.n)) := by rw [← HR.out, ← HOWN.out]; unfold holdsC; rw [HKD.out]; rfl
    have HS : Hid (∀ n, Calls Tryz.prog 100 #[.slice a2 c.consts.length c2, .slice a6 own.length c6] ((w1.alloc (.cells #[.slice a6 own.length c6] 26)).drewN n) fun e w' => e = .returned (.int .i64 (sumV c.consts own)) ∧ ∃ k, w' = (w1.alloc (.cells #[.slice a6 own.length c6] 26)).drewN k) := by
      intro n
      refine (sum_any c.consts own _ _ _ ((HKA.out _ (below_drewN HB2.out n)).2.1) (HX.out _ (below_drewN (below_alloc _ _) n)) HL.out hc8 HCI.out HOB.out).mono ?_
      rintro e w' ⟨rfl, rfl⟩
      exact ⟨rfl, n, rfl⟩
    go_wp2
    go_quiet ((go_at_call 100; exact HS.out _))
    go_wp2
    go_ret
    exact ⟨ret_bool HE.out.symm, below_drewN HB2.out _⟩
  · -- kind 3
    have HL : Hid (c.consts.length = own.length) := by
      have h := HFO.out
      unfold formB at h
      rw [HKD.out] at h
      simp at h
      exact h.2.1.trans HOL.out.symm
    have HE : Hid (R = (sumV c.consts own != c.n)) := by rw [← HR.out, ← HOWN.out]; unfold holdsC; rw [HKD.out]; rfl
    have HS : Hid (∀ n, Calls Tryz.prog 100 #[.slice a2 c.consts.length c2, .slice a6 own.length c6] ((w1.alloc (.cells #[.slice a6 own.length c6] 26)).drewN n) fun e w' => e = .returned (.int .i64 (sumV c.consts own)) ∧ ∃ k, w' = (w1.alloc (.cells #[.slice a6 own.length c6] 26)).drewN k) := by
      intro n
      refine (sum_any c.consts own _ _ _ ((HKA.out _ (below_drewN HB2.out n)).2.1) (HX.out _ (below_drewN (below_alloc _ _) n)) HL.out hc8 HCI.out HOB.out).mono ?_
      rintro e w' ⟨rfl, rfl⟩
      exact ⟨rfl, n, rfl⟩
    go_wp2
    go_quiet ((go_at_call 100; exact HS.out _))
    go_wp2
    go_ret
    exact ⟨ret_bool HE.out.symm, below_drewN HB2.out _⟩
  · -- kind 4
    have HE : Hid (R = decide own.Nodup) := by rw [← HR.out, ← HOWN.out]; unfold holdsC; rw [HKD.out]; rfl
    have ho4 : own.length ≤ 4 := by have := HOL.out; omega
    go_wp2_with fail
    refine (differ_any own _ _ (HX.out _ (below_alloc _ _)) ho4 HOB.out).mono ?_
    rintro e w3 ⟨rfl, hb3⟩
    have hb4 : Below w.heap.size w w3 := HB2.out.trans (hb3.mono (by simp; omega))
    clear hb3
    go_wp2
    go_ret
    exact ⟨ret_bool HE.out.symm, hb4⟩
  · -- kind 5
    have HL : Hid (own.length = 2) := by
      have h := HFO.out
      unfold formB at h
      rw [HKD.out] at h
      simp at h
      exact HOL.out.trans h.2.1
    obtain ⟨p, q, rfl⟩ : ∃ p q, own = [p, q] := by
      match own, HL.out with
      | [p, q], _ => exact ⟨p, q, rfl⟩
    obtain ⟨b, off, rfl, hb, e0⟩ := H6.out 0 p rfl
    obtain ⟨b', off', hab, hb', e1⟩ := H6.out 1 q rfl
    cases hab
    rw [Nat.add_zero] at e0
    have HE : Hid (R = (decide (0 ≤ p) && (decide (p < c.consts.length) && (c.consts.getD p.toNat 0 == q)))) := by rw [← HR.out]; unfold holdsC; rw [HKD.out, HOWN.out]; rfl
    by_cases q1 : 0 ≤ p
    · obtain ⟨j, rfl⟩ : ∃ j : Nat, p = (j : Int) := ⟨p.toNat, by omega⟩
      by_cases q2 : j < c.consts.length
      · obtain ⟨y, hy⟩ : ∃ y, c.consts[j]? = some y := ⟨c.consts[j], by simp [q2]⟩
        obtain ⟨a2', c2', hva, _, hrc⟩ := (HKA.out _ HB1.out).2.1
        obtain ⟨b2, off2, hax, hb2, e2⟩ := hrc j y hy
        have ha2 : a2 = some ⟨b2, off2, none⟩ := by cases hva; exact hax
        subst ha2
        have HE2 : Hid (R = (y == q)) := by
          show _ = _
          rw [HE.out, decide_eq_true q1, decide_eq_true (show (j : Int) < c.consts.length by omega), Int.toNat_natCast, List.getD_eq_getElem?_getD, hy]; rfl
        have q2' : (j : Int) < (c.consts.length : Int) := by omega
        clear hy hva hrc hax
        go_wp2
        go_quiet (fail)
        go_wp2
        go_ret
        exact ⟨ret_bool HE2.out.symm, below_drewN HB2.out _⟩
      · have HE2 : Hid (R = false) := by
          show _ = _
          rw [HE.out, decide_eq_true q1, decide_eq_false (show ¬ (j : Int) < c.consts.length by omega)]; rfl
        have q3 : decide (j < c.consts.length) = false := decide_eq_false q2
        have q4 : decide ((j : Int) < (c.consts.length : Int)) = false := decide_eq_false (by omega)
        clear q2
        go_wp2
        go_quiet (fail)
        go_wp2
        go_ret
        exact ⟨ret_bool HE2.out.symm, below_drewN HB2.out _⟩
    · have HE2 : Hid (R = false) := by
        show _ = _
        rw [HE.out, decide_eq_false q1]; rfl
      have q3 : decide (0 ≤ p) = false := decide_eq_false q1
      go_wp2
      go_quiet (fail)
      go_wp2
      go_ret
      exact ⟨ret_bool HE2.out.symm, below_drewN HB2.out _⟩
  · -- kind 6
    have HE : Hid (R = c.rows.any fun r => decide (r = own)) := by rw [← HR.out, ← HOWN.out]; unfold holdsC; rw [HKD.out]; rfl
    go_wp2_with fail
    refine (containsf_rows 103 _ (fun r => decide (r = own)) c.rows _ _ ((HKA.out _ HB2.out).2.2.1) ⟨enters_row, ?_⟩).mono ?_
    · intro r x w' hb' hx'
      exact row_same own r _ x w1.heap.size w' (HX.out _ ((below_alloc _ _).trans (hb'.mono (by simp)))) hx' ((hb'.cell (by simp)).trans (by simp))
    rintro e w3 ⟨rfl, hb3⟩
    have hb4 : Below w.heap.size w w3 := HB2.out.trans (hb3.mono (by simp; omega))
    clear hb3
    go_wp2
    go_ret
    exact ⟨ret_bool HE.out.symm, hb4⟩
  · -- kind 7
    have HL : Hid (own.length = 3) := by
      have h := HFO.out
      unfold formB at h
      rw [HKD.out] at h
      simp at h
      exact HOL.out.trans h.2.1
    obtain ⟨p, q, r, rfl⟩ : ∃ p q r, own = [p, q, r] := by
      match own, HL.out with
      | [p, q, r], _ => exact ⟨p, q, r, rfl⟩
    obtain ⟨b, off, rfl, hb, e0⟩ := H6.out 0 p rfl
    obtain ⟨b', off', hab, hb', e1⟩ := H6.out 1 q rfl
    cases hab
    obtain ⟨b', off', hab, hb', e2⟩ := H6.out 2 r rfl
    cases hab
    rw [Nat.add_zero] at e0
    have HE : Hid (R = (p * q == r)) := by rw [← HR.out]; unfold holdsC; rw [HKD.out, HOWN.out]; rfl
    obtain ⟨g1, g2⟩ := mul_bound p q (by have := HOB.out p (by simp); omega) (by have := HOB.out p (by simp); omega) (HOB.out q (by simp)).1 (HOB.out q (by simp)).2
    go_wp2
    go_quiet (fail)
    go_wp2
    go_ret
    exact ⟨ret_bool HE.out.symm, below_drewN HB2.out _⟩
  · -- kind 8
    have HL : Hid (2 ≤ own.length) := by
      have h := HFO.out
      unfold formB at h
      rw [HKD.out] at h
      simp at h
      have := HOL.out
      show 2 ≤ _
      omega
    obtain ⟨p, q, r, rfl⟩ : ∃ p q r, own = p :: q :: r := by
      match own, HL.out with
      | p :: q :: r, _ => exact ⟨p, q, r, rfl⟩
    obtain ⟨b, off, rfl, hb, e0⟩ := H6.out 0 p rfl
    rw [Nat.add_zero] at e0
    have HE : Hid (R = (p == r.foldl max q)) := by rw [← HR.out]; unfold holdsC; rw [HKD.out, HOWN.out]; rfl
    obtain ⟨n, hn⟩ : ∃ n, (p :: q :: r).length = n := ⟨_, rfl⟩
    have hn2 : 2 ≤ n := by rw [← hn]; simp
    have HT : Hid (IArg w1 (.slice (some ⟨b, off + 1, none⟩) (n - 1) (c6 - 1)) (q :: r)) := by
      refine ⟨_, _, by rw [← hn]; rfl, ⟨by rw [← hn] at *; simp at *; omega, by unfold maxLen; omega⟩, fun i z hz => ?_⟩
      obtain ⟨b', off', hab, hb', e1⟩ := H6.out (i + 1) z (by simpa using hz)
      cases hab
      exact ⟨b, off + 1, rfl, hb, by rw [Nat.add_assoc, Nat.add_comm 1 i]; exact e1⟩
    rw [hn] at hm61 HB2 ⊢
    clear hn
    go_wp2
    go_quiet ((go_at_call 105; exact (max_any q r _ _ (IArg.below (below_drewN (below_alloc _ _) _) HT.out)).mono (fun _ _ h => ⟨h.1, _, h.2⟩)))
    go_wp2
    go_ret
    exact ⟨ret_bool HE.out.symm, below_drewN HB2.out _⟩
  · -- kind 9
    have HE : Hid (R = c.lits.any (litB vals)) := by rw [← HR.out]; unfold holdsC; rw [HKD.out]; rfl
    go_wp2_with fail
    refine (clause_true c.lits vals _ _ _ ((HKA.out _ HB2.out).2.2.2) (HVA.out _ HB2.out) HLI.out).mono ?_
    rintro e w3 ⟨rfl, hb3⟩
    have hb4 : Below w.heap.size w w3 := HB2.out.trans (hb3.mono (by simp; omega))
    clear hb3
    go_wp2
    go_ret
    exact ⟨ret_bool HE.out.symm, hb4⟩
  · -- kind 10
    have HFF : Hid (own.length = 1 ∧ c.lits.length = 1) := by
      have h := HFO.out
      unfold formB at h
      rw [HKD.out] at h
      simp at h
      exact ⟨HOL.out.trans h.2.1, h.2.2.1⟩
    obtain ⟨p, rfl⟩ : ∃ p, own = [p] := by
      match own, HFF.out.1 with
      | [p], _ => exact ⟨p, rfl⟩
    obtain ⟨l, hl⟩ : ∃ l, c.lits = [l] := by
      match c.lits, HFF.out.2 with
      | [l], _ => exact ⟨l, rfl⟩
    obtain ⟨b, off, rfl, hb, e0⟩ := H6.out 0 p rfl
    rw [Nat.add_zero] at e0
    have HE : Hid (R = (p == (if litB vals l then 1 else 0))) := by rw [← HR.out]; unfold holdsC; rw [HKD.out, HOWN.out, hl]; rfl
    obtain ⟨a2', c2', hva, _, hrc⟩ := (HKA.out _ HB1.out).2.2.2
    obtain ⟨b2, off2, hax, hb2, g0, g1, g2⟩ := hrc 0 l (by rw [hl]; rfl)
    have ha2 : a4 = some ⟨b2, off2, none⟩ := by cases hva; exact hax
    subst ha2
    simp only [Nat.zero_mul, Nat.add_zero] at g0 g1 g2
    have HLL := HLI.out l (by rw [hl]; simp)
    have hlen : c.lits.length = 1 := by rw [hl]; rfl
    obtain ⟨j, hj⟩ : ∃ j : Nat, l.var = (j : Int) := ⟨l.var.toNat, by omega⟩
    have hjl : j < vals.length := by omega
    obtain ⟨y, hy⟩ : ∃ y, vals[j]? = some y := ⟨vals[j], by simp [hjl]⟩
    obtain ⟨a7, c7, hva7, hm7, hrc7⟩ := HVA.out _ HB1.out
    obtain ⟨b7, off7, hax7, hb7, g7⟩ := hrc7 j y hy
    have ha5 : a5 = some ⟨b7, off7, none⟩ := by cases hva7; exact hax7
    have hm75 : vals.length ≤ c5 ∧ c5 ≤ maxLen := by cases hva7; exact hm7
    unfold maxLen at hm75
    obtain ⟨hm71, hm72⟩ := hm75
    subst ha5
    obtain ⟨B, HB⟩ : ∃ B : Bool, Hid (litB vals l = B) := ⟨_, rfl⟩
    rw [HB.out] at HE
    have HBV : Hid (litV y l = B) := by
      have h := HB.out
      unfold litB at h
      rwa [hj, valAt_get vals j y hy] at h
    obtain ⟨N, hN⟩ : ∃ N : Int, (if B then (1 : Int) else 0) = N := ⟨_, rfl⟩
    have HOI : Hid (∀ W' : World, Calls Tryz.prog 107 #[.bool B] W' fun e w' => e = .returned (.int .i64 N) ∧ w' = W') := by
      intro W'; rw [← hN]; exact oneif_any B W'
    rw [hN] at HE
    clear hN
    obtain ⟨W, hW⟩ : ∃ W : World, W = w1.alloc (.cells #[.slice (some ⟨b, off, none⟩) 1 c6] 26) := ⟨_, rfl⟩
    have HW : Hid (W = w1.alloc (.cells #[.slice (some ⟨b, off, none⟩) 1 c6] 26)) := hW
    have HB2W : Hid (Below w.heap.size w W) := by rw [hW]; exact HB2.out
    have HCL : Hid (∀ wq : World, Below W.heap.size W wq → Calls Tryz.prog 108 #[.agg #[.int .i64 (j : Int), .int .i64 l.op, .int .i64 l.n], .int .i64 y] wq fun e w' => e = .returned (.bool B) ∧ Below W.heap.size W w') := by
      intro wq hq
      rw [← hj]
      refine (lit_true l y wq).mono ?_
      rintro e w' ⟨rfl, hb⟩
      exact ⟨by rw [HBV.out], hq.trans (hb.mono hq.size)⟩
    have k0 : W.cell? ⟨w1.heap.size, 0, none⟩ = some (.slice (some ⟨b, off, none⟩) 1 c6) := by rw [hW]; simp
    have k1 : W.cell? ⟨b, off, none⟩ = some (.int .i64 p) := by rw [hW]; exact (World.cell?_alloc_past _ _ _ hb).trans e0
    have k2 : W.cell? ⟨w.heap.size, 5, none⟩ = some (.slice (some ⟨b2, off2, none⟩) 1 c4) := by rw [hW, ← hlen]; exact (World.cell?_alloc_past _ _ _ hl0).trans d5
    have k3 : W.cell? ⟨b2, off2, none⟩ = some (.int .i64 (j : Int)) := by rw [hW, ← hj]; exact (World.cell?_alloc_past _ _ _ hb2).trans g0
    have k4 : W.cell? ⟨b2, off2 + 1, none⟩ = some (.int .i64 l.op) := by rw [hW]; exact (World.cell?_alloc_past _ _ _ hb2).trans g1
    have k5 : W.cell? ⟨b2, off2 + 2, none⟩ = some (.int .i64 l.n) := by rw [hW]; exact (World.cell?_alloc_past _ _ _ hb2).trans g2
    have k7 : W.cell? ⟨b7, off7 + j, none⟩ = some (.int .i64 y) := by rw [hW]; exact (World.cell?_alloc_past _ _ _ hb7).trans g7
    have hsW : W.heap.size = w1.heap.size + 1 := by rw [hW]; simp
    have HSW : Hid (W.heap.size = w1.heap.size + 1) := hsW
    clear hW hsW hva hrc hax hl hva7 hrc7 hax7 hm7 hy hj
    go_wp2
    rw [← HW.out]
    clear d0 d2 d3 d4 d5 e0 g0 g1 g2 g7 H6 HX HKA HVA HVI HLI HCI HOB HFO HFF HOL HOWN HLL HR HKD HB1 hm21 hm41 hm2 hm4 hm61 hm6
    refine region_below (by kernel_rfl) (by kernel_rfl) ?_
    go_big_quiet_want
    refine ⟨.slice (some ⟨b, off, none⟩) 1 c6, fun wq hq => ?_, ?_⟩
    · have h0 := (hq.cell (p := ⟨w1.heap.size, 0, none⟩) (by have := HSW.out; simp only; omega)).trans k0
      simp [Oper.quietAt, go_sem, h0]
    go_simp
    go_big_quiet_on
    go_big_quiet_want
    go_big_quiet_op
    first | go_big_quiet_on | (refine ⟨_, fun _ _ => rfl, ?_⟩; go_big_quiet_on)
    go_big_quiet_want
    refine ⟨.int .i64 p, fun wq hq => ?_, ?_⟩
    · have h0 := (hq.cell (p := ⟨b, off, none⟩) (by have := HSW.out; simp only; omega)).trans k1
      simp [Oper.quietAt, go_sem, h0]
    go_simp
    go_big_quiet_on
    go_big_quiet_want
    go_big_quiet_op
    first | go_big_quiet_on | (refine ⟨_, fun _ _ => rfl, ?_⟩; go_big_quiet_on)
    go_big_quiet_want
    refine ⟨.slice (some ⟨b2, off2, none⟩) 1 c4, fun wq hq => ?_, ?_⟩
    · have h0 := (hq.cell (p := ⟨w.heap.size, 5, none⟩) (by have := HSW.out; simp only; omega)).trans k2
      simp [Oper.quietAt, go_sem, h0]
    go_simp
    go_big_quiet_on
    go_big_quiet_want
    go_big_quiet_op
    first | go_big_quiet_on | (refine ⟨_, fun _ _ => rfl, ?_⟩; go_big_quiet_on)
    go_big_quiet_want
    refine ⟨.agg #[.int .i64 (j : Int), .int .i64 l.op, .int .i64 l.n], fun wq hq => ?_, ?_⟩
    · have h0 := (hq.cell (p := ⟨b2, off2, none⟩) (by have := HSW.out; simp only; omega)).trans k3
      have h1 := (hq.cell (p := ⟨b2, off2 + 1, none⟩) (by have := HSW.out; simp only; omega)).trans k4
      have h2 := (hq.cell (p := ⟨b2, off2 + 2, none⟩) (by have := HSW.out; simp only; omega)).trans k5
      simp [Oper.quietAt, go_sem, h0, h1, h2]
    go_simp
    go_big_quiet_on
    go_big_quiet_want
    go_big_quiet_op
    first | go_big_quiet_on | (refine ⟨_, fun _ _ => rfl, ?_⟩; go_big_quiet_on)
    go_big_quiet_want
    go_big_quiet_op
    first | go_big_quiet_on | (refine ⟨_, fun _ _ => rfl, ?_⟩; go_big_quiet_on)
    go_big_quiet_want
    refine ⟨.slice (some ⟨b2, off2, none⟩) 1 c4, fun wq hq => ?_, ?_⟩
    · have h0 := (hq.cell (p := ⟨w.heap.size, 5, none⟩) (by have := HSW.out; simp only; omega)).trans k2
      simp [Oper.quietAt, go_sem, h0]
    go_simp
    go_big_quiet_on
    go_big_quiet_want
    go_big_quiet_op
    first | go_big_quiet_on | (refine ⟨_, fun _ _ => rfl, ?_⟩; go_big_quiet_on)
    go_big_quiet_want
    go_big_quiet_op
    first | go_big_quiet_on | (refine ⟨_, fun _ _ => rfl, ?_⟩; go_big_quiet_on)
    go_big_quiet_want
    refine ⟨.int .i64 (j : Int), fun wq hq => ?_, ?_⟩
    · have h0 := (hq.cell (p := ⟨b2, off2, none⟩) (by have := HSW.out; simp only; omega)).trans k3
      simp [Oper.quietAt, go_sem, h0]
    go_simp
    go_big_quiet_on
    go_big_quiet_want
    go_big_quiet_op
    first | go_big_quiet_on | (refine ⟨_, fun _ _ => rfl, ?_⟩; go_big_quiet_on)
    go_big_quiet_want
    refine ⟨.int .i64 y, fun wq hq => ?_, ?_⟩
    · have h0 := (hq.cell (p := ⟨b7, off7 + j, none⟩) (by have := HSW.out; simp only; omega)).trans k7
      simp [Oper.quietAt, go_sem, h0]
    go_simp
    go_big_quiet_on
    go_big_quiet_want
    refine ⟨.bool B, fun wq hq => ?_, ?_⟩
    · simp [Oper.quietAt, go_sem]
      exact HCL.out wq hq
    go_simp
    go_big_quiet_on
    go_big_quiet_want
    refine ⟨.int .i64 N, fun wq hq => ?_, ?_⟩
    · simp [Oper.quietAt, go_sem]
      exact (HOI.out wq).mono (fun e w' h => ⟨h.1, by rw [h.2]; exact hq⟩)
    go_simp
    go_big_quiet_on
    go_big_quiet_want
    go_big_quiet_op
    first | go_big_quiet_on | (refine ⟨_, fun _ _ => rfl, ?_⟩; go_big_quiet_on)
    go_big_quiet_want
    go_big_quiet_op
    first | go_big_quiet_on | (refine ⟨_, fun _ _ => rfl, ?_⟩; go_big_quiet_on)
    refine wpQuiet_nil ?_
    intro w' hw'
    have hb4 : Below w.heap.size w w' := HB2W.out.trans (hw'.mono HB2W.out.size)
    clear hw'
    go_wp2
    go_ret
    exact ⟨ret_bool HE.out.symm, hb4⟩
end Go.Proofs.YtdjbejlbmaiocagGreatDoor
/-
  WALKS: package model: checkWithCon, Holds, All.
-/
namespace Go.Proofs.YtdjbejlbmaiocagGreatDoor
open Go.RowKit

def conCheck (m : Mod) (con : Int) : Int := if checkM m = 0 then (if con < 0 ∨ (m.cons.length : Int) ≤ con then 5 else 0) else checkM m
def noCon : MCon := ⟨0, [], [], 0, [], []⟩
def holdsA (m : Mod) (con : Int) (vals : List Int) : Bool × Int :=
  if conCheck m con = 0 then
    (if vals.length = m.vars.length then (if vals.all (fun x => inB x 50) then (holdsC (m.cons.getD con.toNat noCon) vals, 0) else (false, 3)) else (false, 1))
  else (false, conCheck m con)
def insideV (v : MVar) (x : Int) : Bool := !decide (x < v.lo) && !decide (v.hi < x)
def allA (m : Mod) (vals : List Int) : Bool × Int :=
  if checkM m = 0 then
    (if vals.length = m.vars.length then ((m.vars.zip vals).all (fun p => insideV p.1 p.2) && m.cons.all (fun c => holdsC c vals), 0) else (false, 1))
  else (false, checkM m)

set_option maxHeartbeats 800000 in
set_option maxRecDepth 100000 in
theorem check_con (m : Mod) (con : Int) (vs cs : Value) (w : World) (hm : MArg w vs cs m) :
    Calls Tryz.prog 77 #[modV vs cs m, .int .i64 con] w fun e w' => e = .returned (.int .i64 (conCheck m con)) ∧ Below w.heap.size w w' := by
  have HMA : Hid (∀ w' : World, Below w.heap.size w w' → MArg w' vs cs m) := fun w' h => MArg.below h hm
  obtain ⟨⟨a1, c1, rfl, _, _⟩, ⟨a2, c2, rfl, hl2, _⟩⟩ := hm
  unfold maxLen at hl2
  obtain ⟨hl21, hl2⟩ := hl2
  obtain ⟨R, hR⟩ : ∃ R, conCheck m con = R := ⟨_, rfl⟩
  rw [hR]
  obtain ⟨er, her⟩ : ∃ er, checkM m = er := ⟨_, rfl⟩
  have HER : Hid (checkM m = er) := her
  have HE : Hid (R = if er = 0 then (if con < 0 ∨ (m.cons.length : Int) ≤ con then 5 else 0) else er) := by rw [← hR, ← her]; rfl
  clear hR her
  unfold modV
  go_enter Tryz.func77, Tryz.ntmps77
  go_wp2_with fail
  refine (check_model m (.slice a1 m.vars.length c1) (.slice a2 m.cons.length c2) _ ?_).mono ?_
  · exact HMA.out _ (below_alloc _ _)
  rintro e w1 ⟨rfl, hb1⟩
  rw [HER.out]
  have d1 : w1.cell? ⟨w.heap.size, 1, none⟩ = some (.slice a2 m.cons.length c2) := (hb1.cell (by simp)).trans (by simp)
  have HB1 : Hid (Below w.heap.size w w1) := (below_alloc _ _).trans (hb1.mono (by simp))
  clear hb1
  by_cases he : er = 0
  · subst he
    by_cases q1 : con < 0
    · have HN : Hid (R = 5) := by rw [HE.out, if_pos rfl, if_pos (Or.inl q1)]; rfl
      go_wp2
      go_ret
      exact ⟨ret_int HN.out.symm, HB1.out⟩
    · by_cases q2 : (m.cons.length : Int) ≤ con
      · have HN : Hid (R = 5) := by rw [HE.out, if_pos rfl, if_pos (Or.inr q2)]; rfl
        go_wp2
        go_ret
        exact ⟨ret_int HN.out.symm, HB1.out⟩
      · have HN : Hid (R = 0) := by rw [HE.out, if_pos rfl, if_neg (by omega)]; rfl
        go_wp2
        go_ret
        exact ⟨ret_int HN.out.symm, HB1.out⟩
  · have HN : Hid (R = er) := by rw [HE.out, if_neg he]; rfl
    have he2 : (er != 0) = true := by simpa using he
    clear he
    go_wp2
    go_ret
    exact ⟨ret_int HN.out.symm, HB1.out⟩

theorem conCheck_ok (m : Mod) (con : Int) (h : conCheck m con = 0) : checkM m = 0 ∧ 0 ≤ con ∧ con < m.cons.length := by
  unfold conCheck at h
  split at h
  · rename_i h0
    split at h
    · cases h
    · exact ⟨h0, by omega, by omega⟩
  · contradiction

end Go.Proofs.YtdjbejlbmaiocagGreatDoor
/-
  The library's contracts at this program, laid: one application each.
-/
namespace Go.Proofs
open Go.Shelf
def Tryz.lays189_ren : Go.Shelf.Ren := ⟨fun | 189 => 78 | 125 => 142 | 257 => 141 | 128 => 209 | 129 => 210 | 294 => 200 | 295 => 201 | 296 => 202 | 297 => 203 | 298 => 204 | 299 => 205 | 216 => 206 | 300 => 207 | 301 => 208 | 328 => 259 | 329 => 260 | 330 => 261 | 331 => 262 | 332 => 263 | 215 => 264 | 343 => 286 | n => n, fun | 28 => 26 | 3 => 3 | 46 => 197 | 0 => 0 | 51 => 254 | 53 => 182 | 4 => 4 | 183 => 247 | 182 => 246 | 131 => 251 | 5 => 5 | 9 => 9 | 218 => 292 | 222 => 296 | 228 => 314 | 229 => 155 | n => n, fun | n => n⟩
theorem Tryz.lays189 : Go.Proofs.Lays.n189 Tryz.prog Tryz.lays189_ren := {
  mixed := by kernel_rfl
  f125 := Tryz.func142.trans (congrArg some (by kernel_rfl))
  f128 := Tryz.func209.trans (congrArg some (by kernel_rfl))
  f129 := Tryz.func210.trans (congrArg some (by kernel_rfl))
  f189 := Tryz.func78.trans (congrArg some (by kernel_rfl))
  f215 := Tryz.func264.trans (congrArg some (by kernel_rfl))
  f216 := Tryz.func206.trans (congrArg some (by kernel_rfl))
  f257 := Tryz.func141.trans (congrArg some (by kernel_rfl))
  f294 := Tryz.func200.trans (congrArg some (by kernel_rfl))
  f295 := Tryz.func201.trans (congrArg some (by kernel_rfl))
  f296 := Tryz.func202.trans (congrArg some (by kernel_rfl))
  f297 := Tryz.func203.trans (congrArg some (by kernel_rfl))
  f298 := Tryz.func204.trans (congrArg some (by kernel_rfl))
  f299 := Tryz.func205.trans (congrArg some (by kernel_rfl))
  f300 := Tryz.func207.trans (congrArg some (by kernel_rfl))
  f301 := Tryz.func208.trans (congrArg some (by kernel_rfl))
  f328 := Tryz.func259.trans (congrArg some (by kernel_rfl))
  f329 := Tryz.func260.trans (congrArg some (by kernel_rfl))
  f330 := Tryz.func261.trans (congrArg some (by kernel_rfl))
  f331 := Tryz.func262.trans (congrArg some (by kernel_rfl))
  f332 := Tryz.func263.trans (congrArg some (by kernel_rfl))
  f343 := Tryz.func286.trans (congrArg some (by kernel_rfl))
  t0 := Tryz.underlying0
  a0 := Tryz.isAgg0
  z0 := Tryz.sizeOf0
  v0 := Tryz.zeroValue0
  t3 := Tryz.underlying3
  a3 := Tryz.isAgg3
  z3 := Tryz.sizeOf3
  v3 := Tryz.zeroValue3
  t4 := Tryz.underlying4
  a4 := Tryz.isAgg4
  z4 := Tryz.sizeOf4
  v4 := Tryz.zeroValue4
  t5 := Tryz.underlying5
  a5 := Tryz.isAgg5
  z5 := Tryz.sizeOf5
  v5 := Tryz.zeroValue5
  t9 := Tryz.underlying9
  a9 := Tryz.isAgg9
  z9 := Tryz.sizeOf9
  v9 := Tryz.zeroValue9
  t28 := Tryz.underlying26
  a28 := Tryz.isAgg26
  z28 := Tryz.sizeOf26
  v28 := Tryz.zeroValue26
  t46 := Tryz.underlying197
  a46 := Tryz.isAgg197
  z46 := Tryz.sizeOf197
  v46 := Tryz.zeroValue197
  t51 := Tryz.underlying254
  a51 := Tryz.isAgg254
  z51 := Tryz.sizeOf254
  v51 := Tryz.zeroValue254
  t53 := Tryz.underlying182
  a53 := Tryz.isAgg182
  z53 := Tryz.sizeOf182
  v53 := Tryz.zeroValue182
  t131 := Tryz.underlying251
  a131 := Tryz.isAgg251
  z131 := Tryz.sizeOf251
  v131 := Tryz.zeroValue251
  t182 := Tryz.underlying246
  a182 := Tryz.isAgg246
  z182 := Tryz.sizeOf246
  v182 := Tryz.zeroValue246
  t183 := Tryz.underlying247
  a183 := Tryz.isAgg247
  z183 := Tryz.sizeOf247
  v183 := Tryz.zeroValue247
  t218 := Tryz.underlying292
  a218 := Tryz.isAgg292
  z218 := Tryz.sizeOf292
  v218 := Tryz.zeroValue292
  t222 := Tryz.underlying296
  a222 := Tryz.isAgg296
  z222 := Tryz.sizeOf296
  v222 := Tryz.zeroValue296
  t228 := Tryz.underlying314
  a228 := Tryz.isAgg314
  z228 := Tryz.sizeOf314
  v228 := Tryz.zeroValue314
  t229 := Tryz.underlying155
  a229 := Tryz.isAgg155
  z229 := Tryz.sizeOf155
  v229 := Tryz.zeroValue155 }
open Go.Sort Go.RowKit in
theorem Tryz.slices_Sort_int (blk off cap : Nat) (zs : List Int) (w : World) (hH : Holds (Value.int .i64) w blk off zs.toArray) (hblk : blk < w.heap.size) (hsz : zs.length < 4611686018427387904) :
    Calls Tryz.prog 78 #[.slice (some ⟨blk, off, none⟩) zs.length cap] w fun e w' =>
      e = .returned (.tuple #[]) ∧ ∃ n os, w' = grow (putRow (Value.int .i64) (Sort.ahead w n) blk off (zs.mergeSort fun x y => decide (x ≤ y)).toArray) os := Any.slices_Sort_int Tryz.lays189 blk off cap zs w hH hblk hsz
def Tryz.laysNm220_ren : Go.Shelf.Ren := ⟨fun | 20 => 79 | n => n, fun | 22 => 26 | 3 => 3 | 4 => 4 | 0 => 0 | n => n, fun | n => n⟩
theorem Tryz.laysNm220 : Go.Proofs.Lays2.n20 Tryz.prog Tryz.laysNm220_ren := {
  mixed := by kernel_rfl
  f20 := Tryz.func79.trans (congrArg some (by kernel_rfl))
  t0 := Tryz.underlying0
  a0 := Tryz.isAgg0
  z0 := Tryz.sizeOf0
  v0 := Tryz.zeroValue0
  t3 := Tryz.underlying3
  a3 := Tryz.isAgg3
  z3 := Tryz.sizeOf3
  v3 := Tryz.zeroValue3
  t4 := Tryz.underlying4
  a4 := Tryz.isAgg4
  z4 := Tryz.sizeOf4
  v4 := Tryz.zeroValue4
  t22 := Tryz.underlying26
  a22 := Tryz.isAgg26
  z22 := Tryz.sizeOf26
  v22 := Tryz.zeroValue26
  i3 := by kernel_rfl }
open Go.RowKit Go.Lib Go.Sort in
theorem Tryz.slices_Compact_int_arr (blk off cap : Nat) (d : Array Int) (w : World) (hH : Holds encI w blk off d) (hsz : d.size ≤ 9223372036854775807) (hcap : d.size ≤ cap) :
    Calls Tryz.prog 79 #[.slice (some ⟨blk, off, none⟩) d.size cap] w fun e w' => e = .returned (.slice (some ⟨blk, off, none⟩) (compactUpTo d d.size).length cap) ∧ ∃ q, w' = putRow encI (Sort.ahead w q) blk off (compactUpTo d d.size ++ List.replicate (d.size - (compactUpTo d d.size).length) 0).toArray := Any.slices_Compact_int_arr Tryz.laysNm220 blk off cap d w hH hsz hcap
open Go.RowKit Go.Lib Go.Sort in
theorem Tryz.slices_Compact_int (blk off cap : Nat) (zs : List Int) (w : World) (hH : Holds (Value.int .i64) w blk off zs.toArray) (hsz : zs.length ≤ 9223372036854775807) (hcap : zs.length ≤ cap) :
    Calls Tryz.prog 79 #[.slice (some ⟨blk, off, none⟩) zs.length cap] w fun e w' => e = .returned (.slice (some ⟨blk, off, none⟩) (Lib.compact zs).length cap) ∧ ∃ q, w' = putRow (Value.int .i64) (Sort.ahead w q) blk off (Lib.compact zs ++ List.replicate (zs.length - (Lib.compact zs).length) 0).toArray := Any.slices_Compact_int Tryz.laysNm220 blk off cap zs w hH hsz hcap
open Go.RowKit Go.Lib Go.Sort in
theorem Tryz.slices_Compact_int_empty (a : Option Addr) (cap : Nat) (w : World) :
    Calls Tryz.prog 79 #[.slice a 0 cap] w fun e w' => e = .returned (.slice a 0 cap) ∧ w' = w := Any.slices_Compact_int_empty Tryz.laysNm220 a cap w
end Go.Proofs
/-
  slices.Sort and slices.Compact on numbers of one's own, in this proof's words.
-/
namespace Go.Proofs.YtdjbejlbmaiocagGreatDoor
open Go.RowKit Go.Sort

theorem put_below (w : World) (n g B : Nat) (d : Array Int) (hB : B ≤ g) : Below B w (putRow (Value.int .i64) (Sort.ahead w n) g 0 d) := by
  refine ⟨rfl, rfl, rfl, by simp [putRow, mapBlock, Sort.ahead], fun k hk => ?_⟩
  show (Array.modify _ _ _)[k]? = _
  rw [Array.getElem?_modify, if_neg (by omega)]; rfl
theorem grow_below (w : World) (os : Array Obj) (B : Nat) (hB : B ≤ w.heap.size) : Below B w (grow w os) :=
  ⟨rfl, rfl, rfl, by simp, fun k hk => heap_grow_old w os (by omega)⟩
/-- A row of numbers that may be written: it lies at a block's head. -/
def IRow (w : World) (g : Nat) (zs : List Int) : Prop := Holds (Value.int .i64) w g 0 zs.toArray ∧ g < w.heap.size
theorem irow_own {w : World} {base g cap : Nat} {zs : List Int} (h : w.ownsRow base 3 1 (.slice (some ⟨g, 0, none⟩) zs.length cap) zs.length (zs.map (Value.int .i64))) : IRow w g zs := by
  refine ⟨fun j hj => ?_, (h.lt g rfl).2⟩
  have hj' : j < zs.length := by simpa using hj
  rw [Nat.zero_add]
  refine ⟨?_, h.frozenAt j⟩
  rw [h.cellAt j (by omega), List.getElem?_map]
  simp [hj']
theorem irow_arg {w : World} {g cap n : Nat} {zs : List Int} (h : IRow w g zs) (hn : n = zs.length) (hc : n ≤ cap) (hm : cap ≤ maxLen) : IArg w (.slice (some ⟨g, 0, none⟩) n cap) zs := by
  subst hn
  refine ⟨_, cap, rfl, ⟨hc, hm⟩, fun i z hz => ⟨g, 0, rfl, h.2, ?_⟩⟩
  have hi : i < zs.length := (List.getElem?_eq_some_iff.1 hz).1
  have hz' : zs[i] = z := by simpa [hi] using hz
  have := (h.1 i (by simpa using hi)).1
  rw [this]
  simp [hi, hz']

def sortI (zs : List Int) : List Int := zs.mergeSort fun x y => decide (x ≤ y)
theorem sortI_len (zs : List Int) : (sortI zs).length = zs.length := by simp [sortI]

theorem sort_any (zs : List Int) (g cap B : Nat) (w : World) (h : IRow w g zs) (hB : B ≤ g) (hn : zs.length ≤ 1000) :
    Calls Tryz.prog 78 #[.slice (some ⟨g, 0, none⟩) zs.length cap] w fun e w' => e = .returned (.tuple #[]) ∧ IRow w' g (sortI zs) ∧ Below B w w' := by
  refine (Tryz.slices_Sort_int g 0 cap zs w h.1 h.2 (by omega)).mono ?_
  rintro e w' ⟨rfl, n, os, rfl⟩
  have hp : Holds (Value.int .i64) (Sort.ahead w n) g 0 zs.toArray := h.1
  have hs : g < (putRow (Value.int .i64) (Sort.ahead w n) g 0 (sortI zs).toArray).heap.size := by
    have : (putRow (Value.int .i64) (Sort.ahead w n) g 0 (sortI zs).toArray).heap.size = w.heap.size := by simp [putRow, mapBlock, Sort.ahead]
    rw [this]; exact h.2
  have h2 := h.2
  refine ⟨rfl, ⟨holds_grow _ _ _ _ _ _ hs (holds_putRow _ _ _ _ _ _ hp (by simp)), by simp; omega⟩, (put_below w n g B _ hB).trans (grow_below _ _ _ (Nat.le_trans hB (Nat.le_of_lt hs)))⟩

def compI (zs : List Int) : List Int := Lib.compact zs
theorem holds_take {w : World} {g : Nat} (a b : List Int) (h : Holds (Value.int .i64) w g 0 (a ++ b).toArray) : Holds (Value.int .i64) w g 0 a.toArray := by
  intro j hj
  have hj' : j < a.length := by simpa using hj
  have := h j (by simp; omega)
  have e1 : (a ++ b).toArray[j]! = a.toArray[j]! := by
    simp [List.getElem?_append_left hj']
  rw [e1] at this
  exact this
theorem compI_len (zs : List Int) : (compI zs).length ≤ zs.length := by
  unfold compI Lib.compact Lib.compactUpTo
  rw [List.length_map]
  exact Nat.le_trans (List.length_filter_le _ _) (by simp)
theorem compact_any (zs : List Int) (g cap B : Nat) (w : World) (h : IRow w g zs) (hB : B ≤ g) (hn : zs.length ≤ 1000) (hc : zs.length ≤ cap) :
    Calls Tryz.prog 79 #[.slice (some ⟨g, 0, none⟩) zs.length cap] w fun e w' => e = .returned (.slice (some ⟨g, 0, none⟩) (compI zs).length cap) ∧ IRow w' g (compI zs) ∧ Below B w w' := by
  refine (Tryz.slices_Compact_int g 0 cap zs w h.1 (by omega) hc).mono ?_
  rintro e w' ⟨rfl, q, rfl⟩
  have hp : Holds (Value.int .i64) (Sort.ahead w q) g 0 zs.toArray := h.1
  refine ⟨rfl, ⟨?_, ?_⟩, put_below w q g B _ hB⟩
  · refine holds_take (compI zs) (List.replicate (zs.length - (compI zs).length) 0) ?_
    have hl := compI_len zs
    exact holds_putRow _ _ _ _ _ _ hp (by simp; unfold compI at *; omega)
  · have : (putRow (Value.int .i64) (Sort.ahead w q) g 0 (Lib.compact zs ++ List.replicate (zs.length - (Lib.compact zs).length) 0).toArray).heap.size = w.heap.size := by simp [putRow, mapBlock, Sort.ahead]
    rw [this]; exact h.2
end Go.Proofs.YtdjbejlbmaiocagGreatDoor
