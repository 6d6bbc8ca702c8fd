/-
  From rows of one's own to arguments; WALK: package text: read.
-/
import Derived.Test.YtggkbhafbhhhhabGreatDoorTxtT
namespace Go.Proofs.YtggkbhafbhhhhabGreatDoor
open Go.RowKit Go.Maps

theorem flat_get9 {α : Type} (f : α → List Value) (s : Nat) (hf : ∀ x, (f x).length = s) : ∀ (l : List α) (i k : Nat) (x : α), l[i]? = some x → k < s → (l.flatMap f)[i * s + k]? = (f x)[k]?
  | [], i, k, x, h, _ => by simp at h
  | y :: l, 0, k, x, h, hk => by
    simp at h
    subst h
    rw [List.flatMap_cons, Nat.zero_mul, Nat.zero_add, List.getElem?_append_left (by rw [hf]; exact hk)]
  | y :: l, i + 1, k, x, h, hk => by
    have h2 : l[i]? = some x := by simpa using h
    rw [List.flatMap_cons, List.getElem?_append_right (by rw [hf, Nat.add_mul]; omega), hf, show (i + 1) * s + k - s = i * s + k by rw [Nat.add_mul]; omega]
    exact flat_get9 f s hf l i k x h2 hk
theorem row_open {w : World} {B : Nat} {e : TypeId} {size n : Nat} {v : Value} {xs : List Value} (h : w.ownsRow B e size v n xs) :
    ∃ a c, v = .slice a n c ∧ (n ≤ c ∧ c ≤ maxLen) ∧ ∀ i, i < n → ∃ g, a = some ⟨g, 0, none⟩ ∧ g < w.heap.size ∧ ∀ j, j < n * size → w.cell? ⟨g, j, none⟩ = xs[j]? := by
  have h0 := h
  rcases h.2 with ⟨rfl, rfl⟩ | ⟨g, cap, cur, rfl, _, hg, hc, hm, _⟩
  · exact ⟨none, 0, rfl, ⟨Nat.le_refl _, Nat.zero_le _⟩, fun i hi => absurd hi (Nat.not_lt_zero _)⟩
  · exact ⟨_, _, rfl, ⟨hc, hm⟩, fun i hi => ⟨g, rfl, (Array.getElem?_eq_some_iff.1 hg).1, fun j hj => h0.cellAt j hj⟩⟩
theorem iarg_own {w : World} {B : Nat} {v : Value} {l : List Int} (h : w.ownsRow B 3 1 v l.length (l.map (Value.int .i64))) : IArg w v l := by
  obtain ⟨a, c, hv, hm, hr⟩ := row_open h
  refine ⟨a, c, hv, hm, fun i z hz => ?_⟩
  have hi : i < l.length := (List.getElem?_eq_some_iff.1 hz).1
  obtain ⟨g, ha, hg, hc⟩ := hr i hi
  exact ⟨g, 0, ha, hg, by rw [Nat.zero_add, hc i (by omega), List.getElem?_map, hz]; rfl⟩
theorem rarg_own {w : World} {B base : Nat} {v : Value} {l : List (List Int)} (h : LSr B base w v l) : RArg w v l := by
  obtain ⟨cells, h1, h2⟩ := h
  obtain ⟨a, c, hv, hm, hr⟩ := row_open h1
  refine ⟨a, c, hv, hm, fun i z hz => ?_⟩
  have hi : i < l.length := (List.getElem?_eq_some_iff.1 hz).1
  obtain ⟨g, ha, hg, hc⟩ := hr i hi
  obtain ⟨x, hx, ho⟩ := h2 i z hz
  exact ⟨g, 0, x, ha, hg, by rw [Nat.zero_add, hc i (by omega), hx], iarg_own ho⟩
theorem larg_own {w : World} {B : Nat} {v : Value} {l : List MLit} (h : w.ownsRow B 76 3 v l.length (l.flatMap litC)) : LArg w v l := by
  obtain ⟨a, c, hv, hm, hr⟩ := row_open h
  refine ⟨a, c, hv, hm, fun i z hz => ?_⟩
  have hi : i < l.length := (List.getElem?_eq_some_iff.1 hz).1
  obtain ⟨g, ha, hg, hc⟩ := hr i hi
  have hf := flat_get9 litC 3 (fun _ => rfl) l i
  exact ⟨g, 0, ha, hg, by rw [Nat.zero_add, hc _ (by omega)]; exact hf 0 z hz (by omega), by rw [Nat.zero_add, hc _ (by omega)]; exact hf 1 z hz (by omega), by rw [Nat.zero_add, hc _ (by omega)]; exact hf 2 z hz (by omega)⟩
theorem varg_own {w : World} {B : Nat} {v : Value} {l : List MVar} (h : w.ownsRow B 47 3 v l.length (l.flatMap varC)) (hs : ∀ x ∈ l, x.name.size ≤ maxLen) : VArg w v l := by
  obtain ⟨a, c, hv, hm, hr⟩ := row_open h
  refine ⟨a, c, hv, hm, fun i z hz => ⟨hs z (List.mem_of_getElem? hz), ?_⟩⟩
  have hi : i < l.length := (List.getElem?_eq_some_iff.1 hz).1
  obtain ⟨g, ha, hg, hc⟩ := hr i hi
  have hf := flat_get9 varC 3 (fun _ => rfl) l i
  exact ⟨g, 0, ha, hg, by rw [Nat.zero_add, hc _ (by omega)]; exact hf 0 z hz (by omega), by rw [Nat.zero_add, hc _ (by omega)]; exact hf 1 z hz (by omega), by rw [Nat.zero_add, hc _ (by omega)]; exact hf 2 z hz (by omega)⟩
theorem karg_own {w : World} {B : Nat} {vv vc vr vl : Value} {c : MCon} (h : ConR B w vv vc vr vl c) : KArg w vv vc vr vl c := ⟨iarg_own h.1, iarg_own h.2.1, rarg_own h.2.2.1, larg_own h.2.2.2⟩
theorem carg_own {w : World} {B : Nat} {v : Value} {l : List MCon} (h : LCr B w v l) : CArg w v l := by
  obtain ⟨cells, h1, h2⟩ := h
  obtain ⟨a, c, hv, hm, hr⟩ := row_open h1
  refine ⟨a, c, hv, hm, fun i z hz => ?_⟩
  have hi : i < l.length := (List.getElem?_eq_some_iff.1 hz).1
  obtain ⟨g, ha, hg, hc⟩ := hr i hi
  obtain ⟨vv, vc, vr, vl, hcl, ho⟩ := h2 i z hz
  refine ⟨g, 0, vv, vc, vr, vl, ha, hg, ?_, ?_, ?_, ?_, ?_, ?_, karg_own ho⟩
  · rw [Nat.zero_add, hc _ (by omega)]; exact hcl 0 (by omega)
  · rw [Nat.zero_add, hc _ (by omega)]; exact hcl 1 (by omega)
  · rw [Nat.zero_add, hc _ (by omega)]; exact hcl 2 (by omega)
  · rw [Nat.zero_add, hc _ (by omega)]; exact hcl 3 (by omega)
  · rw [Nat.zero_add, hc _ (by omega)]; exact hcl 4 (by omega)
  · rw [Nat.zero_add, hc _ (by omega)]; exact hcl 5 (by omega)

/-- A model whose lists were made above a block. -/
def ModR (B : Nat) (w : World) (vs cs : Value) (m : Mod) : Prop := w.ownsRow B 47 3 vs m.vars.length (m.vars.flatMap varC) ∧ LCr B w cs m.cons ∧ ∀ x ∈ m.vars, x.name.size ≤ maxLen
theorem ModR.marg {B : Nat} {w : World} {vs cs : Value} {m : Mod} (h : ModR B w vs cs m) : MArg w vs cs m := ⟨varg_own h.1 h.2.2, carg_own h.2.1⟩
theorem ModR.fr {X : Nat → Prop} {B : Nat} {w w' : World} {vs cs : Value} {m : Mod} (h : ModR B w vs cs m) (hf : Fr X w w') (hX : ∀ k, X k → k < B) : ModR B w' vs cs m := ⟨own_fr h.1 hf hX, h.2.1.fr hf hX, h.2.2⟩
theorem ModR.below {B : Nat} {w w' : World} {vs cs : Value} {m : Mod} (h : ModR B w vs cs m) (hb : Below w.heap.size w w') : ModR B w' vs cs m := h.fr (X := fun _ => False) (Fr.below hb) (fun _ hk => hk.elim)
theorem ModR.mono {B B' : Nat} {w : World} {vs cs : Value} {m : Mod} (h : ModR B w vs cs m) (hb : B' ≤ B) : ModR B' w vs cs m := by
  obtain ⟨h1, ⟨cells, h2, h3⟩, h4⟩ := h
  refine ⟨own_mono9 h1 hb, ⟨cells, own_mono9 h2 hb, fun i c hc => ?_⟩, h4⟩
  obtain ⟨vv, vc, vr, vl, hcl, ho⟩ := h3 i c hc
  exact ⟨vv, vc, vr, vl, hcl, ho.mono hb⟩
def noMod : Mod := ⟨[], [], 0, 0⟩
def readA (en : Int) (l : List Tok) : Mod × Int × Int := match modelP en l with
  | .ok m _ => (m, 0, 0)
  | .bad x e => (noMod, x, e)
theorem modr_none (B : Nat) (w : World) : ModR B w (.slice none 0 0) (.slice none 0 0) noMod := ⟨World.ownsRow_nil _ _ _ _, LCr.none _ _, fun x hx => by simp [noMod] at hx⟩
theorem Fr.toBelow {w w' : World} (h : Fr (fun k => w.heap.size ≤ k) w w') : Below w.heap.size w w' := ⟨h.os, h.tape, h.output, h.size, fun k hk => h.block k hk (by omega)⟩
theorem read_world (w : World) (v : Value) (l : List Tok) (en : Int) (hv : TArg w.heap.size w v l) (W : World)
    (hW : W = ((((w.alloc (.cells #[.slice none 0 0, .slice none 0 0, .int .i64 0, .int .i64 0] 25)).alloc (.cells #[.int .i64 0] 3)).alloc (.cells #[.int .i64 0] 26)).alloc (.map #[] 0)).alloc (.cells #[v, .int .i64 en, .map (some (w.heap.size + 1 + 1 + 1))] 88)) :
    Rd w.heap.size (w.heap.size + 1 + 1 + 1 + 1) (w.heap.size + 1 + 1 + 1) en W l ∧ NmS W (w.heap.size + 1 + 1 + 1) [] ∧ Three w.heap.size 0 0 W W ∧ Below w.heap.size w W ∧ W.heap.size = w.heap.size + 5 := by
  obtain ⟨w1, e1⟩ : ∃ w1, w1 = w.alloc (.cells #[.slice none 0 0, .slice none 0 0, .int .i64 0, .int .i64 0] 25) := ⟨_, rfl⟩
  rw [← e1] at hW
  obtain ⟨w2, e2⟩ : ∃ w2, w2 = w1.alloc (.cells #[.int .i64 0] 3) := ⟨_, rfl⟩
  rw [← e2] at hW
  obtain ⟨w3, e3⟩ : ∃ w3, w3 = w2.alloc (.cells #[.int .i64 0] 26) := ⟨_, rfl⟩
  rw [← e3] at hW
  obtain ⟨w4, e4⟩ : ∃ w4, w4 = w3.alloc (.map #[] 0) := ⟨_, rfl⟩
  rw [← e4] at hW
  have s1 : w1.heap.size = w.heap.size + 1 := by rw [e1]; simp
  have s2 : w2.heap.size = w.heap.size + 1 + 1 := by rw [e2]; simp [s1]
  have s3 : w3.heap.size = w.heap.size + 1 + 1 + 1 := by rw [e3]; simp [s2]
  have s4 : w4.heap.size = w.heap.size + 1 + 1 + 1 + 1 := by rw [e4]; simp [s3]
  have s5 : W.heap.size = w.heap.size + 1 + 1 + 1 + 1 + 1 := by rw [hW]; simp [s4]
  have b1 : Below w.heap.size w w1 := by rw [e1]; exact below_alloc _ _
  have b2 : Below w1.heap.size w1 w2 := by rw [e2]; exact below_alloc _ _
  have b3 : Below w2.heap.size w2 w3 := by rw [e3]; exact below_alloc _ _
  have b4 : Below w3.heap.size w3 w4 := by rw [e4]; exact below_alloc _ _
  have b5 : Below w4.heap.size w4 W := by rw [hW]; exact below_alloc _ _
  have h1 : w1.heap[w.heap.size]? = some (.cells #[.slice none 0 0, .slice none 0 0, .int .i64 0, .int .i64 0] 25) := by rw [e1]; exact heap_alloc_new _ _
  have h2 : w2.heap[w1.heap.size]? = some (.cells #[.int .i64 0] 3) := by rw [e2]; exact heap_alloc_new _ _
  have h3 : w3.heap[w2.heap.size]? = some (.cells #[.int .i64 0] 26) := by rw [e3]; exact heap_alloc_new _ _
  have h5 : W.heap[w4.heap.size]? = some (.cells #[v, .int .i64 en, .map (some (w.heap.size + 1 + 1 + 1))] 88) := by rw [hW]; exact heap_alloc_new _ _
  have hn : NmS w4 w3.heap.size [] := by rw [e4]; exact World.ownsMap_made _ _ _ _
  have hb : Below w.heap.size w W := b1.trans ((b2.mono (by omega)).trans ((b3.mono (by omega)).trans ((b4.mono (by omega)).trans (b5.mono (by omega)))))
  rw [s1] at h2
  rw [s2] at h3
  rw [s4] at h5
  rw [s3] at hn
  refine ⟨⟨⟨by omega, hb.size, by omega⟩, v, h5, hv.old fun p hp => hb.cell hp⟩, hn.old (b5.block _ (by omega)), ⟨?_, ?_, ?_, Fr.refl _ _⟩, hb, by omega⟩
  · exact (b5.block _ (by omega)).trans ((b4.block _ (by omega)).trans ((b3.block _ (by omega)).trans ((b2.block _ (by omega)).trans h1)))
  · exact (b5.block _ (by omega)).trans ((b4.block _ (by omega)).trans ((b3.block _ (by omega)).trans h2))
  · exact (b5.block _ (by omega)).trans ((b4.block _ (by omega)).trans h3)
theorem Three.fr {X : Nat → Prop} {b : Nat} {x er : Int} {w0 w w' : World} (h : Three b x er w0 w) (hf : Fr X w w') (h0 : ¬ X b) (h1 : ¬ X (b + 1)) (h2 : ¬ X (b + 2)) : Three b x er w' w' :=
  ⟨(hf.block _ (Array.getElem?_eq_some_iff.1 h.1).1 h0).trans h.1, (hf.block _ (Array.getElem?_eq_some_iff.1 h.2.1).1 h1).trans h.2.1, (hf.block _ (Array.getElem?_eq_some_iff.1 h.2.2.1).1 h2).trans h.2.2.1, Fr.refl _ _⟩
set_option maxHeartbeats 1600000 in
set_option maxRecDepth 100000 in
theorem read_any (v : Value) (l : List Tok) (en : Int) (w : World) (hv : TArg w.heap.size w v l) :
    Calls Tryz.prog 14 #[v, .int .i64 en] w fun e w' => ∃ vs cs, e = .returned (.tuple #[modV vs cs (readA en l).1, .int .i64 (readA en l).2.1, .int .i64 (readA en l).2.2]) ∧ ModR w.heap.size w' vs cs (readA en l).1 ∧ Below w.heap.size w w' := by
  have HV : Hid (TArg w.heap.size w v l) := hv
  obtain ⟨a, c, rfl, _⟩ := hv
  obtain ⟨m0, x0, e0, hA⟩ : ∃ m0 x0 e0, readA en l = (m0, x0, e0) := ⟨_, _, _, rfl⟩
  have HA : Hid (readA en l = (m0, x0, e0)) := hA
  rw [hA]
  simp only
  clear hA
  have hmf : ∀ (fn : Fn) (first cap : Array Value) (w : World), (Instr.makeFunc fn first cap).run Tryz.prog w = .ok (.func fn first cap) w := fun _ _ _ _ => rfl
  have hmm := @run_makeMap Tryz.prog
  go_enter_defers Tryz.func14, Tryz.ntmps14
  go_wp2_with fail
  obtain ⟨W, hW⟩ : ∃ W, W = ((((w.alloc (.cells #[.slice none 0 0, .slice none 0 0, .int .i64 0, .int .i64 0] 25)).alloc (.cells #[.int .i64 0] 3)).alloc (.cells #[.int .i64 0] 26)).alloc (.map #[] 0)).alloc (.cells #[.slice a l.length c, .int .i64 en, .map (some (w.heap.size + 1 + 1 + 1))] 88) := ⟨_, rfl⟩
  have HRW : Hid (Rd w.heap.size (w.heap.size + 1 + 1 + 1 + 1) (w.heap.size + 1 + 1 + 1) en W l ∧ NmS W (w.heap.size + 1 + 1 + 1) [] ∧ Three w.heap.size 0 0 W W ∧ Below w.heap.size w W ∧ W.heap.size = w.heap.size + 5) := read_world w _ l en HV.out W hW
  rw [← hW]
  clear hW hmf hmm
  refine (rmodel_any w.heap.size (w.heap.size + 1 + 1 + 1 + 1) (w.heap.size + 1 + 1 + 1) en W l HRW.out.1 HRW.out.2.1 (by omega)).mono ?_
  intro e w1 hp
  cases hs : modelP en l with
  | bad x er =>
    rw [hs] at hp
    obtain ⟨rfl, hfr⟩ := hp
    have HPB : Hid (m0 = noMod ∧ x0 = x ∧ e0 = er) := by have h := HA.out; unfold readA at h; rw [hs] at h; cases h; exact ⟨rfl, rfl, rfl⟩
    have HF : Hid (Fr (XRM (w.heap.size + 1 + 1 + 1 + 1) (w.heap.size + 1 + 1 + 1)) W w1) := hfr
    have HT1 : Hid (Three w.heap.size 0 0 w1 w1) := HRW.out.2.2.1.fr hfr (fun h => by rcases h with h | h <;> omega) (fun h => by rcases h with h | h <;> omega) (fun h => by rcases h with h | h <;> omega)
    clear hs hfr
    go_wp2
    refine leaves_cons (f := 40) (args := #[.pointer (some ⟨w.heap.size, 0, none⟩), .pointer (some ⟨w.heap.size + 1, 0, none⟩), .pointer (some ⟨w.heap.size + 2, 0, none⟩)]) (by simp) (by simp [go_sem]) ?_
    refine (catch_bad w.heap.size x er w1 HT1.out).mono ?_
    rintro e u' w2 ⟨rfl, rfl, h0, h1, h2, hfr2⟩
    have HE : Hid (Below w.heap.size w w2) := Fr.toBelow (((Fr.below HRW.out.2.2.2.1).trans (HF.out.weak fun k hk => by rcases hk with rfl | rfl <;> omega)).trans (hfr2.weak fun k hk => by omega))
    have r0 := blk9 h0 0 _ rfl
    have r1 := blk9 h0 1 _ rfl
    have r2 := blk9 h0 2 _ rfl
    have r3 := blk9 h0 3 _ rfl
    have r4 := blk9 h1 0 _ rfl
    have r5 := blk9 h2 0 _ rfl
    clear h0 h1 h2 hfr2
    obtain ⟨k0, k1, k2⟩ := HPB.out
    subst k0 k1 k2
    simp [Leaves, settle, results, Tryz.results14, go_sem, r0, r1, r2, r3, r4, r5]
    exact ⟨_, _, rfl, modr_none _ _, HE.out⟩
  | ok m r =>
    rw [hs] at hp
    obtain ⟨v, rfl, ⟨vs, cs, rfl, hvo, hco, hsz, hvl, hcl⟩, hrd, hfr⟩ := hp
    have HPB : Hid (m0 = m ∧ x0 = 0 ∧ e0 = 0) := by have h := HA.out; unfold readA at h; rw [hs] at h; cases h; exact ⟨rfl, rfl, rfl⟩
    have HF : Hid (Fr (XRM (w.heap.size + 1 + 1 + 1 + 1) (w.heap.size + 1 + 1 + 1)) W w1) := hfr
    have HT1 : Hid (Three w.heap.size 0 0 w1 w1) := HRW.out.2.2.1.fr hfr (fun h => by rcases h with h | h <;> omega) (fun h => by rcases h with h | h <;> omega) (fun h => by rcases h with h | h <;> omega)
    have HVO : Hid (w1.ownsRow W.heap.size 47 3 vs m.vars.length (m.vars.flatMap varC)) := hvo
    have HCO : Hid (LCr W.heap.size w1 cs m.cons) := hco
    have HSZ : Hid (∀ x ∈ m.vars, x.name.size ≤ maxLen) := hsz
    obtain ⟨a1, c1, hv1⟩ := own_form hvo
    obtain ⟨a2, c2, hv2⟩ := hco.form
    subst hv1 hv2
    obtain ⟨h0, h1, h2, _⟩ := HT1.out
    have r0 := blk9 h0 0 _ rfl
    have r1 := blk9 h0 1 _ rfl
    have r2 := blk9 h0 2 _ rfl
    have r3 := blk9 h0 3 _ rfl
    have r4 := blk9 h1 0 _ rfl
    have r5 := blk9 h2 0 _ rfl
    have z0 := frz9 h0 0
    have z1 := frz9 h0 1
    have z2 := frz9 h0 2
    have z3 := frz9 h0 3
    have z4 := frz9 h1 0
    have z5 := frz9 h2 0
    clear hs hfr hrd hvo hco hsz hvl hcl h0 h1 h2
    unfold modV
    go_wp2
    refine leaves_cons (f := 40) (args := #[.pointer (some ⟨w.heap.size, 0, none⟩), .pointer (some ⟨w.heap.size + 1, 0, none⟩), .pointer (some ⟨w.heap.size + 2, 0, none⟩)]) (by simp) (by simp [go_sem]) ?_
    refine (catch_idle w.heap.size _).mono ?_
    rintro e u' w2 ⟨rfl, rfl, rfl⟩
    obtain ⟨k0, k1, k2⟩ := HPB.out
    subst k0 k1 k2
    simp [Leaves, settle, results, Tryz.results14, go_sem, *]
    have hsW := HRW.out.2.2.2.2
    have fE : Fr (fun k => k = w.heap.size ∨ k = w.heap.size + 1 ∨ k = w.heap.size + 2) w1 _ := ((((((Fr.refl _ w1).setX (p := ⟨w.heap.size, 0, none⟩) (Or.inl rfl) (.slice a1 m0.vars.length c1)).setX (p := ⟨w.heap.size, 1, none⟩) (Or.inl rfl) (.slice a2 m0.cons.length c2)).setX (p := ⟨w.heap.size, 2, none⟩) (Or.inl rfl) (.int .i64 m0.goal)).setX (p := ⟨w.heap.size, 3, none⟩) (Or.inl rfl) (.int .i64 m0.var)).setX (p := ⟨w.heap.size + 1, 0, none⟩) (Or.inr (Or.inl rfl)) (.int .i64 0)).setX (p := ⟨w.heap.size + 1 + 1, 0, none⟩) (Or.inr (Or.inr rfl)) (.int .i64 0)
    refine ⟨_, _, rfl, (ModR.fr (B := W.heap.size) (m := m0) ⟨HVO.out, HCO.out, HSZ.out⟩ fE (fun k hk => by omega)).mono (by omega), ?_⟩
    exact Fr.toBelow (((Fr.below HRW.out.2.2.2.1).trans (HF.out.weak fun k hk => by rcases hk with rfl | rfl <;> omega)).trans (fE.weak fun k hk => by omega))
end Go.Proofs.YtggkbhafbhhhhabGreatDoor
