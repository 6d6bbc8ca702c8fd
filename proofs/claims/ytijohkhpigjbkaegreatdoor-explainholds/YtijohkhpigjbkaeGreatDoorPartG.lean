/-
  PART 7 of what the proof leans on (FilD, ExpB, ExpD, TwoPlain, TwoPts, StoF, RefI, RefA, StoG, ExpE, FauA, FauB, SifB, NarA, NarB).
-/
import Derived.Test.YtijohkhpigjbkaeGreatDoorPartF
import Derived.Deep.DeepCutAuto
import Derived.Deep.OwnRows
import Derived.Deep.CutBlock
import Derived.Deep.QuietTactic
import Derived.BigQuiet
import Derived.Deep.RegionHeld3
import Derived.Laws.EntriesVeiled
/-
  WALKS: package filter: which values stay; Filter.
-/
namespace Go.Proofs.YtijohkhpigjbkaeGreatDoor
open Go.RowKit Go.Maps

def staysT (F : Bool) (c : MCon) (scope vals : List Int) (l : List (Int × Int)) (k z : Int) : Bool :=
  if F then true else if scope.length = 0 then holdsC c vals else if hasB scope k then l.contains (k, z) else true

set_option maxHeartbeats 1600000 in
set_option maxRecDepth 100000 in
theorem stays_any (N B V M : Nat) (c : MCon) (vv vc vr vl sv stv : Value) (scope : List Int) (s : Sto) (vals : List Int) (l : List (Int × Int)) (F : Bool) (bf bsc k : Nat) (z : Int) (w : World)
    (hT : TrialS N B V M c vv vc vr vl sv stv scope s vals l w) (hf : w.cell? ⟨bf, 0, none⟩ = some (.bool F)) (hs : w.cell? ⟨bsc, 0, none⟩ = some sv) (hce : conE vals.length c = 0) (hvb : ∀ x ∈ vals, -50 ≤ x ∧ x ≤ 50)
    (hl : ∀ q ∈ l, okPair q) (hk : k ≤ 6) (hz : -50 ≤ z ∧ z ≤ 50) :
    Calls Tryz.prog 56 #[.int .i64 k, .int .i64 z, .pointer (some ⟨bf, 0, none⟩), .pointer (some ⟨bsc, 0, none⟩), .pointer (some ⟨B, 0, none⟩)] w fun e w' => e = .returned (.bool (staysT F c scope vals l k z)) ∧ Below w.heap.size w w' := by
  have HK := hT.parts.1
  have HI : Hid (IArg w sv scope) := hT.parts.2.1
  have HVA : Hid (IArg w (.slice (some ⟨V, 0, none⟩) vals.length vals.length) vals) := hT.vals_arg
  obtain ⟨asv, csv, hsv, hms, _⟩ := hT.parts.2.1
  subst hsv
  have HKK : Hid (KArg w vv vc vr vl c) := HK
  obtain ⟨⟨q1, r1, h1, _, _⟩, ⟨q2, r2, h2, _, _⟩, ⟨q3, r3, h3, _, _⟩, ⟨q4, r4, h4, _, _⟩⟩ := HK
  subst h1; subst h2; subst h3; subst h4
  have b0 := bk_cell hT.2.1 0 _ rfl
  have b1 := bk_cell hT.2.1 1 _ rfl
  have b2 := bk_cell hT.2.1 2 _ rfl
  have b3 := bk_cell hT.2.1 3 _ rfl
  have b4 := bk_cell hT.2.1 4 _ rfl
  have b5 := bk_cell hT.2.1 5 _ rfl
  have b8 := bk_cell hT.2.1 8 _ rfl
  have b9 := bk_cell hT.2.1 9 _ rfl
  have hown := hT.2.2.2.2
  have HHAS : Hid (Maps.has (setP (H := Unit) l) (pairK (k : Int) z) = l.contains ((k : Int), z)) := has_setP l ((k : Int), z) hl ⟨by unfold okInt; simp only; omega, by unfold okInt; simp only; omega⟩
  have hkey : keyOf Tryz.prog 96 (.agg #[.int .i64 (k : Int), .int .i64 z]) = some (pairK (k : Int) z) := keyOf_pair _ _ (by unfold okInt; omega) (by unfold okInt; omega)
  have HCE : Hid (conE vals.length c = 0) := hce
  have HVB : Hid (∀ x ∈ vals, -50 ≤ x ∧ x ≤ 50) := hvb
  unfold maxLen at hms
  obtain ⟨hms1, hms⟩ := hms
  clear hT hl hce hvb
  cases F
  · by_cases h0 : scope.length = 0
    · have HN : Hid (staysT false c scope vals l k z = holdsC c vals) := by show _ = _; unfold staysT; simp [h0]
      have g0 : ((scope.length : Int) == 0) = true := by simp [h0]
      rw [HN.out]
      clear h0 hkey hown
      go_enter Tryz.func56, Tryz.ntmps56
      go_wp2_with fail
      refine (holds_any c vals _ _ _ _ _ _ HKK.out HVA.out HCE.out HVB.out).mono ?_
      rintro e w1 ⟨rfl, hb1⟩
      go_wp2
      go_ret
      exact ⟨rfl, hb1⟩
    · have g0 : ((scope.length : Int) == 0) = false := by simpa using h0
      cases hq : hasB scope (k : Int)
      · have HN : Hid (staysT false c scope vals l k z = true) := by show _ = _; unfold staysT; simp [h0, hq]
        rw [HN.out]
        clear h0 hkey hown
        go_enter Tryz.func56, Tryz.ntmps56
        go_wp2_with fail
        refine (contains_ints scope _ (k : Int) _ HI.out).mono ?_
        rintro e w ⟨rfl, rfl⟩
        rw [hq]
        go_wp2
        go_ret
        exact ⟨rfl, Below.refl _ _⟩
      · have HN : Hid (staysT false c scope vals l k z = l.contains ((k : Int), z)) := by show _ = _; unfold staysT; simp [h0, hq]
        rw [HN.out]
        clear h0
        go_enter Tryz.func56, Tryz.ntmps56
        go_wp2_with fail
        refine (contains_ints scope _ (k : Int) _ HI.out).mono ?_
        rintro e w ⟨rfl, rfl⟩
        rw [hq]
        clear hq
        go_wp2_with (first
          | (at_lookup; refine wpList_lookup_own_unit _ rfl _ _ 89 rfl 96 94 Tryz.pairKeyed Tryz.underPairs (Tryz.unitZero _) M l.length _ rfl hown _ _ rfl hkey ?_)
          | go_in)
        go_ret
        exact ⟨ret_bool HHAS.out, below_alloc _ _⟩
  · have HN : Hid (staysT true c scope vals l k z = true) := rfl
    rw [HN.out]
    clear hkey hown
    go_enter Tryz.func56, Tryz.ntmps56
    go_wp2
    go_ret
    exact ⟨rfl, Below.refl _ _⟩
theorem enters_stays (args : Array Value) (w' : World) : Sem.run Tryz.prog (callFunc 56 args) w' = .ok (.enter 56 args) w' := by
  simp [callFunc, go_sem, Tryz.func56, Tryz.f56]

theorem bl3 (w : World) (o1 o2 o3 : Obj) : (((w.alloc o1).alloc o2).alloc o3).drew.heap[w.heap.size]? = some o1 ∧ (((w.alloc o1).alloc o2).alloc o3).drew.heap[w.heap.size + 1]? = some o2 ∧ (((w.alloc o1).alloc o2).alloc o3).drew.heap[w.heap.size + 1 + 1]? = some o3 := by
  refine ⟨?_, ?_, ?_⟩
  all_goals
    show (((w.heap.push _).push _).push _)[_]? = _
    simp only [Array.getElem?_push, Array.size_push]
    repeat first | rw [if_pos (by omega)] | rw [if_neg (by omega)]
  all_goals simp
theorem owns_none (w : World) (M : Nat) (h : w.heap[M]? = some (.map #[] 0)) : w.ownsMap Tryz.prog 96 unitElem M 0 (setP (H := Unit) []) := by
  obtain ⟨es, clock, hb, F, hs, hd⟩ := World.ownsMap_made (H := Unit) w Tryz.prog 96 unitElem
  have he : (w.alloc (.map #[] 0)).heap[w.heap.size]? = some (.map #[] 0) := by show (w.heap.push _)[w.heap.size]? = _; simp
  rw [he] at hb
  cases hb
  exact ⟨#[], 0, h, F, hs, hd⟩
theorem row_bounds (m : Mod) (s : Sto) (hm : checkM m = 0) (hs : checkV m.vars s = 0) : ∀ r ∈ s, ∀ x ∈ r, -50 ≤ x ∧ x ≤ 50 := by
  obtain ⟨h1, h2, h3⟩ := (checkV_ok _ _).1 hs
  intro r hr x hx
  obtain ⟨i, hi⟩ := List.mem_iff_getElem?.1 hr
  have hil : i < s.length := (List.getElem?_eq_some_iff.1 hi).1
  obtain ⟨v, hv⟩ : ∃ v, m.vars[i]? = some v := ⟨m.vars[i]'(by omega), by simp⟩
  have hvo := var_ok m hm i v hv
  have hin := (all_zip _ _ _).1 h2 i v r hv hi
  have := List.all_eq_true.1 hin x hx
  simp [insideB] at this
  omega
theorem met_ok (c : MCon) (s : Sto) (hb : ∀ r ∈ s, ∀ x ∈ r, -50 ≤ x ∧ x ≤ 50) (hs6 : s.length ≤ 6) (hsc : ∀ v ∈ scopeC c, 0 ≤ v ∧ v < (s.length : Int)) : ∀ q ∈ metAll c s, okPair q := by
  rintro ⟨k, z⟩ hq
  unfold metAll at hq
  rw [mem_metK] at hq
  obtain ⟨u, hu, _, hk, rfl⟩ := hq
  have h1 := hsc k hk
  obtain ⟨v, _, hv, hm⟩ := reach_in s _ _ u (fun v hv => by have := hsc v hv; simp only [zerosOf, List.length_replicate]; omega) hu k hk
  have h2 : -50 ≤ valAt u k ∧ valAt u k ≤ 50 := by
    rw [List.getD_eq_getElem?_getD] at hm
    cases hq : s[v.toNat]? with
    | none => rw [hq] at hm; cases hm
    | some r => rw [hq] at hm; exact hb r (List.mem_of_getElem? hq) _ hm
  exact ⟨by unfold okInt; simp only; omega, by unfold okInt; simp only; omega⟩
theorem zeros_bound (n : Nat) : ∀ x ∈ zerosOf n, -50 ≤ x ∧ x ≤ 50 := by
  intro x hx
  have := List.eq_of_mem_replicate hx
  omega
theorem staysT_eq (c : MCon) (s : Sto) (vals : List Int) (l : List (Int × Int)) (h : failedS s = false → l = metAll c s ∧ ((scopeC c).length = 0 → vals = zerosOf s.length)) (k : Nat) (z : Int) : staysT (failedS s) c (scopeC c) vals l k z = staysB c s k z := by
  unfold staysT staysB
  cases hf : failedS s
  · obtain ⟨h1, h2⟩ := h hf
    by_cases h0 : (scopeC c).length = 0
    · rw [h2 h0]; simp [h0]
    · rw [h1]; simp [h0]
  · rfl

theorem bel3 (w : World) (o1 o2 o3 : Obj) : Below w.heap.size w (((w.alloc o1).alloc o2).alloc o3) := ((below_alloc _ _).alloc (by simp) _).alloc (by simp; omega) _
theorem Tryz.infoInt9 : (Tryz.prog.info? 3).map (fun i => (i.zero, i.size, i.bytes)) = some (some (.int .i64 0), 1, 8) := by kernel_rfl
theorem Tryz.underInts9 : Tryz.prog.underlying 39 = some (.slice 3) := by kernel_rfl

set_option maxHeartbeats 3200000 in
set_option maxRecDepth 100000 in
theorem filter_any (m : Mod) (con : Int) (s : Sto) (vs cs v : Value) (w : World) (hm : MArg w vs cs m) (hv : RArg w v s) :
    Calls Tryz.prog 15 #[modV vs cs m, .int .i64 con, v] w fun e w' => ∃ x, e = .returned (.tuple #[x, .int .i64 (filterA m con s).2]) ∧ RArg w' x (filterA m con s).1 ∧ Below w.heap.size w w' := by
  have HMA : Hid (∀ w' : World, Below w.heap.size w w' → MArg w' vs cs m) := fun w' h => MArg.below h hm
  have HVA : Hid (∀ w' : World, Below w.heap.size w w' → RArg w' v s) := fun w' h => RArg.below h hv
  obtain ⟨⟨a1, c1, rfl, _, _⟩, ⟨a2, c2, rfl, hl2, hr2⟩⟩ := hm
  obtain ⟨a3, c3, rfl, hl3, _⟩ := hv
  have HC : Hid (∀ (i : Nat) (t : MCon), m.cons[i]? = some t → ∃ b off vv vc vr vl, a2 = some ⟨b, off, none⟩ ∧ b < w.heap.size ∧
    w.cell? ⟨b, off + i * 6, none⟩ = some (.int .i64 t.kind) ∧ w.cell? ⟨b, off + i * 6 + 1, none⟩ = some vv ∧ w.cell? ⟨b, off + i * 6 + 2, none⟩ = some vc ∧
    w.cell? ⟨b, off + i * 6 + 3, none⟩ = some (.int .i64 t.n) ∧ w.cell? ⟨b, off + i * 6 + 4, none⟩ = some vr ∧ w.cell? ⟨b, off + i * 6 + 5, none⟩ = some vl ∧ KArg w vv vc vr vl t) := hr2
  unfold maxLen at hl2 hl3
  obtain ⟨hl21, hl2⟩ := hl2
  obtain ⟨hl31, hl3⟩ := hl3
  obtain ⟨R, hR⟩ : ∃ R, filterA m con s = R := ⟨_, rfl⟩
  rw [hR]
  obtain ⟨er, her⟩ : ∃ er, checkL m [s] = er := ⟨_, rfl⟩
  obtain ⟨ec, hec⟩ : ∃ ec, conCheck m con = ec := ⟨_, rfl⟩
  have HER : Hid (checkL m [s] = er) := her
  have HEC : Hid (conCheck m con = ec) := hec
  have HE : Hid (R = if er = 0 then (if ec = 0 then (filterS (m.cons.getD con.toNat noCon) s, 0) else ([], ec)) else ([], er)) := by rw [← hR, ← her, ← hec]; rfl
  have HFA : Hid (failedA m s = if er = 0 then (failedS s, 0) else (false, er)) := by rw [← her]; rfl
  have HSA : Hid (scopeA m con = if ec = 0 then (scopeC (m.cons.getD con.toNat noCon), 0) else ([], ec)) := by rw [← hec]; rfl
  clear hR her hec hr2
  unfold modV
  go_enter Tryz.func15, Tryz.ntmps15
  go_wp2_with fail
  refine (sfailed_any m s (.slice a1 m.vars.length c1) (.slice a2 m.cons.length c2) _ _ ?_ ?_).mono ?_
  · exact HMA.out _ (below_alloc _ _)
  · exact HVA.out _ (below_alloc _ _)
  rintro e w1 ⟨rfl, hb1⟩
  have d0 : w1.cell? ⟨w.heap.size, 0, none⟩ = some (.slice a1 m.vars.length c1) := (hb1.cell (by simp)).trans (by simp)
  have d1 : w1.cell? ⟨w.heap.size, 1, none⟩ = some (.slice a2 m.cons.length c2) := (hb1.cell (by simp)).trans (by simp)
  have d2 : w1.cell? ⟨w.heap.size, 2, none⟩ = some (.int .i64 m.goal) := (hb1.cell (by simp)).trans (by simp)
  have d3 : w1.cell? ⟨w.heap.size, 3, none⟩ = some (.int .i64 m.var) := (hb1.cell (by simp)).trans (by simp)
  have HB1 : Hid (Below w.heap.size w w1) := (below_alloc _ _).trans (hb1.mono (by simp))
  have hs1 : w.heap.size < w1.heap.size := by have h := hb1.size; simp at h; omega
  clear hb1
  rw [HFA.out]
  by_cases he : er = 0
  · subst he
    rw [if_pos rfl]
    obtain ⟨o1, o2⟩ := (checkL_one m s).1 HER.out
    have HO1 : Hid (checkM m = 0) := o1
    have HO2 : Hid (checkV m.vars s = 0) := o2
    obtain ⟨F, HF⟩ : ∃ F, Hid (failedS s = F) := ⟨_, rfl⟩
    rw [HF.out]
    clear o1 o2
    go_wp2_with fail
    refine (mscope_any m con (.slice a1 m.vars.length c1) (.slice a2 m.cons.length c2) _ ?_).mono ?_
    · exact HMA.out _ (HB1.out.alloc HB1.out.size _)
    rintro e w2 ⟨sv, rfl, hsv, hb2⟩
    have dF : w2.cell? ⟨w1.heap.size, 0, none⟩ = some (.bool F) := (hb2.cell (by simp)).trans (by simp)
    have e1 : w2.cell? ⟨w.heap.size, 1, none⟩ = some (.slice a2 m.cons.length c2) := (hb2.cell (by simp; omega)).trans ((World.cell?_alloc_past _ _ _ hs1).trans d1)
    have HB2 : Hid (Below w.heap.size w w2) := (HB1.out.alloc HB1.out.size _).trans (hb2.mono (by simp; omega))
    have hs2 : w1.heap.size + 1 ≤ w2.heap.size := by simpa using hb2.size
    rw [HSA.out] at hsv ⊢
    clear hb2 d0 d1 d2 d3
    by_cases hc0 : ec = 0
    · subst hc0
      rw [if_pos rfl] at hsv ⊢
      obtain ⟨p1, p2, p3⟩ := conCheck_ok m con HEC.out
      obtain ⟨j, rfl⟩ : ∃ j : Nat, con = (j : Int) := ⟨con.toNat, by omega⟩
      have hjl : j < m.cons.length := by omega
      obtain ⟨c, hcc⟩ : ∃ c, m.cons[j]? = some c := ⟨m.cons[j], by simp [hjl]⟩
      have hgd : m.cons.getD ((j : Int)).toNat noCon = c := by rw [Int.toNat_natCast, List.getD_eq_getElem?_getD, hcc]; rfl
      rw [hgd] at hsv
      have HN : Hid (R = (filterS c s, 0)) := by show R = _; rw [HE.out]; simp only [eq_self, if_true, hgd]
      obtain ⟨b, off, vv, vc, vr, vl, ha, hb, f0, f1, f2, f3, f4, f5, hka⟩ := HC.out j c hcc
      subst ha
      have g0 := (HB2.out.cell (p := ⟨b, off + j * 6, none⟩) hb).trans f0
      have g1 := (HB2.out.cell (p := ⟨b, off + j * 6 + 1, none⟩) hb).trans f1
      have g2 := (HB2.out.cell (p := ⟨b, off + j * 6 + 2, none⟩) hb).trans f2
      have g3 := (HB2.out.cell (p := ⟨b, off + j * 6 + 3, none⟩) hb).trans f3
      have g4 := (HB2.out.cell (p := ⟨b, off + j * 6 + 4, none⟩) hb).trans f4
      have g5 := (HB2.out.cell (p := ⟨b, off + j * 6 + 5, none⟩) hb).trans f5
      have HKA : Hid (KArg w vv vc vr vl c) := hka
      have HSV : Hid (∀ w' : World, Below w2.heap.size w2 w' → IArg w' sv (scopeC c)) := fun w' h => IArg.below h hsv
      have HCE : Hid (conE m.vars.length c = 0) := con_ok m HO1.out j c hcc
      have HSI : Hid ((∀ v ∈ scopeC c, 0 ≤ v ∧ v < (m.vars.length : Int)) ∧ (c.kind = 10 → c.lits ≠ [])) := scope_in m HO1.out j c hcc
      obtain ⟨asv, csv, rfl, _, _⟩ := hsv
      obtain ⟨⟨q1, r1, rfl, _, _⟩, ⟨q2, r2, rfl, _, _⟩, ⟨q3, r3, rfl, _, _⟩, ⟨q4, r4, rfl, _, _⟩⟩ := hka
      obtain ⟨hn6, hr6⟩ := rows_short m s HO1.out HO2.out
      have HR6 : Hid (∀ r ∈ s, r.length ≤ 6) := hr6
      have HLM : Hid (s.length = m.vars.length) := ((checkV_ok _ _).1 HO2.out).1
      obtain ⟨W3, hW3⟩ : ∃ W3 : World, W3 = w2.alloc (.cells #[.slice asv (scopeC c).length csv] 39) := ⟨_, rfl⟩
      have HW3 : Hid (W3 = w2.alloc (.cells #[.slice asv (scopeC c).length csv] 39)) := hW3
      have hB3 : Below w2.heap.size w2 W3 := by rw [hW3]; exact below_alloc _ _
      have hsc3 : W3.cell? ⟨w2.heap.size, 0, none⟩ = some (.slice asv (scopeC c).length csv) := by rw [hW3]; simp
      have hs3 : w2.heap.size < W3.heap.size := by rw [hW3]; simp
      have k1 := (hB3.cell (p := ⟨w.heap.size, 1, none⟩) (by simp only; omega)).trans e1
      have k2 := (hB3.cell (p := ⟨w1.heap.size, 0, none⟩) (by simp only; omega)).trans dF
      have hb2 : b < w2.heap.size := Nat.lt_of_lt_of_le hb HB2.out.size
      have i0 := (hB3.cell (p := ⟨b, off + j * 6, none⟩) hb2).trans g0
      have i1 := (hB3.cell (p := ⟨b, off + j * 6 + 1, none⟩) hb2).trans g1
      have i2 := (hB3.cell (p := ⟨b, off + j * 6 + 2, none⟩) hb2).trans g2
      have i3 := (hB3.cell (p := ⟨b, off + j * 6 + 3, none⟩) hb2).trans g3
      have i4 := (hB3.cell (p := ⟨b, off + j * 6 + 4, none⟩) hb2).trans g4
      have i5 := (hB3.cell (p := ⟨b, off + j * 6 + 5, none⟩) hb2).trans g5
      have HB3 : Hid (Below w.heap.size w W3) := HB2.out.trans (hB3.mono (by omega))
      have l1 : w.heap.size < W3.heap.size := by omega
      have l2 : w1.heap.size < W3.heap.size := by omega
      have l3 : b < W3.heap.size := by omega
      have HSV3 : Hid (∀ w' : World, Below W3.heap.size W3 w' → IArg w' (.slice asv (scopeC c).length csv) (scopeC c)) := fun w' h => HSV.out _ (hB3.trans (h.mono hB3.size))
      have HKA3 : Hid (∀ w' : World, Below W3.heap.size W3 w' → KArg w' (.slice q1 c.vars.length r1) (.slice q2 c.consts.length r2) (.slice q3 c.rows.length r3) (.slice q4 c.lits.length r4) c) := fun w' h => KArg.below (HB3.out.trans (h.mono (by omega))) HKA.out
      have HVA3 : Hid (∀ w' : World, Below W3.heap.size W3 w' → RArg w' (.slice a3 s.length c3) s) := fun w' h => HVA.out _ (HB3.out.trans (h.mono (by omega)))
      have hmk := run_make_row' (P := Tryz.prog) 39 3 (.int .i64 0) 8 Tryz.underInts9 Tryz.infoInt9 rfl .i64 .i64 s.length (by omega) (by omega)
      have hmm := @run_makeMap Tryz.prog
      clear hW3 hcc hgd f0 f1 f2 f3 f4 f5 g0 g1 g2 g3 g4 g5 hr6 hB3 p1 p2 p3 HMA HVA HC HSV HKA HE HFA HSA hb hb2 e1 dF hs1 hs2
      go_wp2_with fail
      rw [← HW3.out]
      clear HW3
      go_cut [11] (fun p wx => ∃ B V M : Nat, p = .pointer (some ⟨B, 0, none⟩) ∧ (W3.heap.size ≤ B ∧ W3.heap.size ≤ V ∧ W3.heap.size ≤ M ∧ B ≠ V ∧ B ≠ M ∧ V ≠ M) ∧ wx.heap[B]? = some (trialObj c (.slice q1 c.vars.length r1) (.slice q2 c.consts.length r2) (.slice q3 c.rows.length r3) (.slice q4 c.lits.length r4) (.slice asv (scopeC c).length csv) (.slice a3 s.length c3) V s.length M) ∧
        wx.heap[V]? = some (.cells (madeCells #[.int .i64 0] s.length) 3) ∧ wx.heap[M]? = some (.map #[] 0) ∧ Below W3.heap.size W3 wx)
      case first =>
        go_region_held3 (fun w' => Below W3.heap.size W3 w' ∧ w'.cell? ⟨w.heap.size, 1, none⟩ = some (.slice (some ⟨b, off, none⟩) m.cons.length c2) ∧ w'.cell? ⟨w2.heap.size, 0, none⟩ = some (.slice asv (scopeC c).length csv) ∧
            w'.cell? ⟨b, off + j * 6, none⟩ = some (.int .i64 c.kind) ∧ w'.cell? ⟨b, off + j * 6 + 1, none⟩ = some (.slice q1 c.vars.length r1) ∧ w'.cell? ⟨b, off + j * 6 + 2, none⟩ = some (.slice q2 c.consts.length r2) ∧ w'.cell? ⟨b, off + j * 6 + 3, none⟩ = some (.int .i64 c.n) ∧ w'.cell? ⟨b, off + j * 6 + 4, none⟩ = some (.slice q3 c.rows.length r3) ∧ w'.cell? ⟨b, off + j * 6 + 5, none⟩ = some (.slice q4 c.lits.length r4))
          ((refine (fun (hB : Below W3.heap.size W3 _) => ⟨hB, (hB.cell (p := ⟨w.heap.size, 1, none⟩) l1).trans k1, (hB.cell (p := ⟨w2.heap.size, 0, none⟩) hs3).trans hsc3, (hB.cell (p := ⟨b, off + j * 6, none⟩) l3).trans i0, (hB.cell (p := ⟨b, off + j * 6 + 1, none⟩) l3).trans i1, (hB.cell (p := ⟨b, off + j * 6 + 2, none⟩) l3).trans i2, (hB.cell (p := ⟨b, off + j * 6 + 3, none⟩) l3).trans i3, (hB.cell (p := ⟨b, off + j * 6 + 4, none⟩) l3).trans i4, (hB.cell (p := ⟨b, off + j * 6 + 5, none⟩) l3).trans i5⟩ : Below W3.heap.size W3 _ → _) ?_; first | exact (Below.refl _ _).drew | exact (show Below W3.heap.size W3 _ ∧ _ ∧ _ ∧ _ ∧ _ ∧ _ ∧ _ ∧ _ ∧ _ by assumption).1.alloc ((show Below W3.heap.size W3 _ ∧ _ ∧ _ ∧ _ ∧ _ ∧ _ ∧ _ ∧ _ ∧ _ by assumption).1.size) _ | exact bel3 _ _ _ _ | exact (bel3 _ _ _ _).drew))
          (fail)
        all_goals (go_wp2_with fail; go_meet)
        all_goals first
          | exact ⟨_, W3.heap.size, W3.heap.size + 1, rfl, by omega, (bl3 _ _ _ _).2.2, (bl3 _ _ _ _).1, (bl3 _ _ _ _).2.1, (bel3 _ _ _ _).drew⟩
          | exact ⟨_, W3.heap.size, W3.heap.size + 1 + 1, rfl, by omega, (bl3 _ _ _ _).2.1, (bl3 _ _ _ _).1, (bl3 _ _ _ _).2.2, (bel3 _ _ _ _).drew⟩
          | exact ⟨_, W3.heap.size + 1, W3.heap.size, rfl, by omega, (bl3 _ _ _ _).2.2, (bl3 _ _ _ _).2.1, (bl3 _ _ _ _).1, (bel3 _ _ _ _).drew⟩
          | exact ⟨_, W3.heap.size + 1 + 1, W3.heap.size, rfl, by omega, (bl3 _ _ _ _).2.1, (bl3 _ _ _ _).2.2, (bl3 _ _ _ _).1, (bel3 _ _ _ _).drew⟩
          | exact ⟨_, W3.heap.size + 1, W3.heap.size + 1 + 1, rfl, by omega, (bl3 _ _ _ _).1, (bl3 _ _ _ _).2.1, (bl3 _ _ _ _).2.2, (bel3 _ _ _ _).drew⟩
          | exact ⟨_, W3.heap.size + 1 + 1, W3.heap.size + 1, rfl, by omega, (bl3 _ _ _ _).1, (bl3 _ _ _ _).2.2, (bl3 _ _ _ _).2.1, (bel3 _ _ _ _).drew⟩
      case rest =>
        obtain ⟨B, V, M, rfl, hne, hBh, hVh, hMh, hBx⟩ := hcut
        have hzl : (zerosOf s.length).length = s.length := by simp [zerosOf]
        have hT : TrialS W3.heap.size B V M c (.slice q1 c.vars.length r1) (.slice q2 c.consts.length r2) (.slice q3 c.rows.length r3) (.slice q4 c.lits.length r4) (.slice asv (scopeC c).length csv) (.slice a3 s.length c3) (scopeC c) s (zerosOf s.length) [] wc := by
          refine ⟨hne, by rw [hzl]; exact hBh, ⟨W3, Nat.le_refl _, ⟨HKA3.out _ (Below.refl _ _), HSV3.out _ (Below.refl _ _), HVA3.out _ (Below.refl _ _)⟩, hBx⟩, ?_, owns_none _ _ hMh⟩
          rw [hzl]
          refine ⟨by simp [zerosOf], Or.inr ⟨V, s.length, _, rfl, hne.2.1, hVh, Nat.le_refl _, by unfold maxLen; omega, ?_, ?_⟩⟩
          · have h := congrArg List.length (toList_madeCells_one (.int .i64 0) s.length)
            simp at h
            simpa using h
          · rw [toList_madeCells_one]
            simp [zerosOf]
        have HT : Hid (TrialS W3.heap.size B V M c (.slice q1 c.vars.length r1) (.slice q2 c.consts.length r2) (.slice q3 c.rows.length r3) (.slice q4 c.lits.length r4) (.slice asv (scopeC c).length csv) (.slice a3 s.length c3) (scopeC c) s (zerosOf s.length) [] wc) := hT
        have HBX : Hid (Below W3.heap.size W3 wc) := hBx
        have n2 := (hBx.cell (p := ⟨w1.heap.size, 0, none⟩) l2).trans k2
        have HNE : Hid (W3.heap.size ≤ wc.heap.size) := hBx.size
        have HSC : Hid (∀ v ∈ scopeC c, 0 ≤ v ∧ v < (s.length : Int)) := by rw [HLM.out]; exact HSI.out.1
        have HRB : Hid (∀ r ∈ s, ∀ x ∈ r, -50 ≤ x ∧ x ≤ 50) := row_bounds m s HO1.out HO2.out
        have HCS : Hid (conE s.length c = 0) := by rw [HLM.out]; exact HCE.out
        have HSL : Hid ((scopeC c).length ≤ 8) := by
          obtain ⟨hn4, hl4, _, _⟩ := many_not c (con_facts _ _ HCE.out).2.1
          have h1 := compI_len (sortI (scopeL c))
          rw [sortI_len] at h1
          show (compI (sortI (scopeL c))).length ≤ 8
          have h2 : (scopeL c).length = c.vars.length + c.lits.length := by simp [scopeL]
          omega
        -- the end, whatever was tried
        have HEND : Hid (∀ (vals : List Int) (l : List (Int × Int)) (w5 : World), TrialS W3.heap.size B V M c (.slice q1 c.vars.length r1) (.slice q2 c.consts.length r2) (.slice q3 c.rows.length r3) (.slice q4 c.lits.length r4) (.slice asv (scopeC c).length csv) (.slice a3 s.length c3) (scopeC c) s vals l w5 →
            vals.length = s.length → (∀ x ∈ vals, -50 ≤ x ∧ x ≤ 50) → (∀ q ∈ l, okPair q) → (failedS s = false → l = metAll c s ∧ ((scopeC c).length = 0 → vals = zerosOf s.length)) → Below W3.heap.size W3 w5 →
            Calls Tryz.prog 58 #[.slice a3 s.length c3, .func (.func 56) #[] #[.pointer (some ⟨w1.heap.size, 0, none⟩), .pointer (some ⟨w2.heap.size, 0, none⟩), .pointer (some ⟨B, 0, none⟩)]] w5 fun e w' => ∃ x, e = .returned x ∧ RArg w' x (filterS c s) ∧ Below w.heap.size w w') := by
          intro vals l w5 hT5 hvl hvb hlo hst hB5
          refine (sift_any 56 #[.pointer (some ⟨w1.heap.size, 0, none⟩), .pointer (some ⟨w2.heap.size, 0, none⟩), .pointer (some ⟨B, 0, none⟩)] s (staysB c s) _ w5 (HVA3.out _ hB5) ⟨enters_stays, ?_⟩ hn6 HR6.out).mono ?_
          · intro k r z w' hk hz hb'
            have hB' : Below W3.heap.size W3 w' := hB5.trans (hb'.mono hB5.size)
            have h := stays_any W3.heap.size B V M c _ _ _ _ _ _ (scopeC c) s vals l F w1.heap.size w2.heap.size k z w' (hT5.below hb') ((hB'.cell (p := ⟨w1.heap.size, 0, none⟩) l2).trans k2) ((hB'.cell (p := ⟨w2.heap.size, 0, none⟩) hs3).trans hsc3) (by rw [hvl]; exact HCS.out) hvb hlo
              (by have := (List.getElem?_eq_some_iff.1 hk).1; omega) (HRB.out r (List.mem_of_getElem? hk) z hz)
            rw [← HF.out, staysT_eq c s vals l hst] at h
            exact h
          · rintro e w' ⟨x, rfl, hx, hb⟩
            exact ⟨x, rfl, hx, HB3.out.trans ((hB5.trans (hb.mono hB5.size)).mono (by omega))⟩
        clear hBh hVh hMh hBx hT hmk hmm hzl k1 i0 i1 i2 i3 i4 i5 hsc3
        cases F
        · go_wp2_with fail
          have HFR := from_any W3.heap.size B V M c (.slice q1 c.vars.length r1) (.slice q2 c.consts.length r2) (.slice q3 c.rows.length r3) (.slice q4 c.lits.length r4) (.slice asv (scopeC c).length csv) (.slice a3 s.length c3) (scopeC c) s HSC.out HCS.out hn6 (fun r hr => ⟨HR6.out r hr, HRB.out r hr⟩) HSL.out (scopeC c) 0 (zerosOf s.length) [] wc rfl (Nat.zero_le _) (by simp [zerosOf]) (zeros_bound _) (by
            have h1 := HSL.out
            have h2 : 6 ^ (scopeC c).length ≤ 6 ^ 8 := Nat.pow_le_pow_right (by omega) h1
            have h3 : (scopeC c).length * 6 ^ (scopeC c).length ≤ 8 * 6 ^ 8 := Nat.mul_le_mul h1 h2
            simp only [List.length_nil, Nat.zero_add]
            omega) HT.out
          refine (show Calls Tryz.prog 55 #[.pointer (some ⟨B, 0, none⟩), .int .i64 0] wc _ from HFR).mono ?_
          rintro e w5 ⟨rfl, vals', hT5, hvl, hvb, hag, hbN⟩
          have HB5 : Hid (Below W3.heap.size W3 w5) := HBX.out.trans hbN
          rw [List.nil_append] at hT5
          have HS := HEND.out vals' (metAll c s) w5 hT5 hvl hvb (met_ok c s HRB.out hn6 HSC.out) (fun _ => ⟨rfl, fun h0 => by
            have h1 : scopeC c = [] := List.eq_nil_of_length_eq_zero h0
            rw [h1] at hag
            exact (List.ext_getElem? fun i => hag.2 i (fun v hv => by cases hv)).symm⟩) HB5.out
          have HSH : Hid (Calls Tryz.prog 58 #[.slice a3 s.length c3, .func (.func 56) #[] #[.pointer (some ⟨w1.heap.size, 0, none⟩), .pointer (some ⟨w2.heap.size, 0, none⟩), .pointer (some ⟨B, 0, none⟩)]] w5 fun e w' => ∃ x, e = .returned x ∧ RArg w' x (filterS c s) ∧ Below w.heap.size w w') := HS
          clear HS hT5 hvl hvb hag hbN HFR
          go_wp2_with fail
          refine HSH.out.mono ?_
          rintro e w6 ⟨x, rfl, hx, hb6⟩
          have HX : Hid (RArg w6 x (filterS c s)) := hx
          obtain ⟨ax, cx, rfl, _, _⟩ := hx
          go_wp2
          go_ret2
          rw [HN.out]
          exact ⟨_, rfl, HX.out, hb6⟩
        · have HSH : Hid (Calls Tryz.prog 58 #[.slice a3 s.length c3, .func (.func 56) #[] #[.pointer (some ⟨w1.heap.size, 0, none⟩), .pointer (some ⟨w2.heap.size, 0, none⟩), .pointer (some ⟨B, 0, none⟩)]] wc fun e w' => ∃ x, e = .returned x ∧ RArg w' x (filterS c s) ∧ Below w.heap.size w w') :=
            HEND.out (zerosOf s.length) [] wc HT.out (by simp [zerosOf]) (zeros_bound _) (fun q hq => by cases hq) (fun h => by rw [HF.out] at h; cases h) HBX.out
          go_wp2_with fail
          refine HSH.out.mono ?_
          rintro e w6 ⟨x, rfl, hx, hb6⟩
          have HX : Hid (RArg w6 x (filterS c s)) := hx
          obtain ⟨ax, cx, rfl, _, _⟩ := hx
          go_wp2
          go_ret2
          rw [HN.out]
          exact ⟨_, rfl, HX.out, hb6⟩
    · have HN : Hid (R = ([], ec)) := by show R = _; rw [HE.out]; simp only [eq_self, if_true, hc0, if_false]
      have he2 : (ec != 0) = true := by simpa using hc0
      rw [if_neg hc0] at hsv ⊢
      obtain ⟨asv, csv, rfl, _, _⟩ := hsv
      clear hc0
      go_wp2
      go_ret2
      rw [HN.out]
      exact ⟨_, rfl, ⟨_, _, rfl, ⟨Nat.le_refl _, Nat.zero_le _⟩, fun i r h => by simp at h⟩, HB2.out.alloc HB2.out.size _⟩
  · have HN : Hid (R = ([], er)) := by rw [HE.out, if_neg he]; rfl
    have he2 : (er != 0) = true := by simpa using he
    rw [if_neg he]
    clear he
    go_wp2
    go_ret2
    rw [HN.out]
    exact ⟨_, rfl, ⟨_, _, rfl, ⟨Nat.le_refl _, Nat.zero_le _⟩, fun i r h => by simp at h⟩, HB1.out.alloc HB1.out.size _⟩
end Go.Proofs.YtijohkhpigjbkaeGreatDoor
/-
  WALK: package explain: why.
-/
namespace Go.Proofs.YtijohkhpigjbkaeGreatDoor
open Go.RowKit

set_option maxHeartbeats 3200000 in
set_option maxRecDepth 100000 in
theorem xwhy_any (m : Mod) (hm : checkM m = 0) (con : Nat) (c : MCon) (hc : m.cons[con]? = some c) (s : Sto) (hs : checkV m.vars s = 0) (any : Cla) (hla : any.length ≤ 100) (vs cs sv u : Value) (w : World) (hma : MArg w vs cs m) (hsa : RArg w sv s) (hu : LArg w u any) (hT : TabT w) :
    Calls Tryz.prog 40 #[modV vs cs m, .int .i64 con, sv, u] w fun e w' => ∃ x, e = .returned x ∧ LArg w' x (reasonP m.vars c s any) ∧ Below w.heap.size w w' := by
  have HMA : Hid (∀ w', Below w.heap.size w w' → MArg w' vs cs m) := fun w' h => MArg.below h hma
  have HSA : Hid (∀ w', Below w.heap.size w w' → RArg w' sv s) := fun w' h => RArg.below h hsa
  have HU : Hid (∀ w', Below w.heap.size w w' → LArg w' u any) := fun w' h => LArg.below h hu
  have HT : Hid (∀ w', Below w.heap.size w w' → TabT w') := fun w' h => hT.below h
  have HM : Hid (checkM m = 0) := hm
  have HC : Hid (m.cons[con]? = some c) := hc
  have HLA : Hid (any.length ≤ 100) := hla
  have HSL : Hid (s.length = m.vars.length) := ((checkV_ok _ _).1 hs).1
  obtain ⟨⟨a1, c1, rfl, _, _⟩, ⟨a2, c2, rfl, _, _⟩⟩ := hma
  obtain ⟨a3, c3, rfl, _, _⟩ := hsa
  obtain ⟨a4, c4, rfl, _, _⟩ := hu
  unfold modV
  obtain ⟨q, hq⟩ : ∃ q, wholeP m.vars = q := ⟨_, rfl⟩
  obtain ⟨t, ht⟩ : ∃ t, storedP m.vars s = t := ⟨_, rfl⟩
  obtain ⟨g0, hg0⟩ : ∃ g0, goneP m.vars s = g0 := ⟨_, rfl⟩
  have HQ36 : Hid (q < 2 ^ 36) := by rw [← hq]; exact of_lt m.vars (vars_okP m HM.out) _
  have HT36 : Hid (t < 2 ^ 36) := by rw [← ht]; exact of_lt m.vars (vars_okP m HM.out) _
  have HGW : Hid (∀ i, g0.testBit i = true → (wholeP m.vars).testBit i = true) := fun i hi => gone_whole m.vars s i (by rw [hg0]; exact hi)
  have hbits := bits_andNot_u64 q t (by have := HQ36.out; omega) (by have := HT36.out; omega)
  have hgl : lessN q t = g0 := by rw [← hg0, ← hq, ← ht]; rfl
  rw [hgl] at hbits
  have HQ : Hid (wholeP m.vars = q) := hq
  have HTT : Hid (storedP m.vars s = t) := ht
  have HG0 : Hid (goneP m.vars s = g0) := hg0
  have HWH : Hid (∀ Y, Below w.heap.size w Y → Calls Tryz.prog 79 #[.slice a1 m.vars.length c1] Y fun e w' => e = .returned (.int .u64 (q : Int)) ∧ Below Y.heap.size Y w') := fun Y hY => by
    rw [← HQ.out]; exact whole_any m.vars (vars_all m HM.out) _ Y (HMA.out _ hY).1
  have HSD : Hid (∀ Y, Below w.heap.size w Y → Calls Tryz.prog 80 #[.slice a1 m.vars.length c1, .slice a3 (List.length s) c3] Y fun e w' => e = .returned (.int .u64 (t : Int)) ∧ Below Y.heap.size Y w') := fun Y hY => by
    rw [← HTT.out]; exact stored_any m.vars (vars_all m HM.out) s HSL.out _ _ Y (HMA.out _ hY).1 (HSA.out _ hY)
  obtain ⟨pts, hpts⟩ : ∃ pts, pointsP m.vars c = pts := ⟨_, rfl⟩
  have HPTS : Hid (pointsP m.vars c = pts) := hpts
  have HLT : Hid (∀ z ∈ pts, z < 2 ^ 36) := by rw [← hpts]; exact pointsP_lt m HM.out con c HC.out
  have HPT : Hid (∀ Y, Below w.heap.size w Y → Calls Tryz.prog 82 #[.agg #[.slice a1 m.vars.length c1, .slice a2 m.cons.length c2, .int .i64 m.goal, .int .i64 m.var], .int .i64 (con : Int)] Y fun e w' => ∃ x, e = .returned x ∧ PArg w' x pts ∧ Below Y.heap.size Y w') := fun Y hY => by
    rw [← HPTS.out]; exact points_any m con c _ _ Y HM.out HC.out (HMA.out _ hY)
  have HRE : Hid (reasonP m.vars c s any = whyP m.vars pts any g0) := by show _ = _; rw [reason_why, hpts, hg0]
  rw [HRE.out]
  clear hm hc hT hs hla hq ht hg0 hgl hpts
  go_enter Tryz.func40, Tryz.ntmps40
  go_upto_region 1 with (fail)
  have HB0 : Hid (Below w.heap.size w (w.alloc (.cells #[.slice a1 m.vars.length c1, .slice a2 m.cons.length c2, .int .i64 m.goal, .int .i64 m.var] 25))) := below_alloc _ _
  have HMB : Hid ((w.alloc (.cells #[.slice a1 m.vars.length c1, .slice a2 m.cons.length c2, .int .i64 m.goal, .int .i64 m.var] 25)).heap[w.heap.size]? = some (.cells #[.slice a1 m.vars.length c1, .slice a2 m.cons.length c2, .int .i64 m.goal, .int .i64 m.var] 25)) := heap_alloc_new w _
  obtain ⟨W, hW⟩ : ∃ W, w.alloc (.cells #[.slice a1 m.vars.length c1, .slice a2 m.cons.length c2, .int .i64 m.goal, .int .i64 m.var] 25) = W := ⟨_, rfl⟩
  rw [hW] at HB0 HMB ⊢
  clear hW
  have l0 : w.heap.size < W.heap.size := (Array.getElem?_eq_some_iff.1 HMB.out).1
  have k0 : W.cell? ⟨w.heap.size, 0, none⟩ = some (.slice a1 m.vars.length c1) := by rw [Lib.cell_of_heap HMB.out]; rfl
  have k1 : W.cell? ⟨w.heap.size, 1, none⟩ = some (.slice a2 m.cons.length c2) := by rw [Lib.cell_of_heap HMB.out]; rfl
  have k2 : W.cell? ⟨w.heap.size, 2, none⟩ = some (.int .i64 m.goal) := by rw [Lib.cell_of_heap HMB.out]; rfl
  have k3 : W.cell? ⟨w.heap.size, 3, none⟩ = some (.int .i64 m.var) := by rw [Lib.cell_of_heap HMB.out]; rfl
  have HTO : Hid (∀ Y, Below W.heap.size W Y → Below w.heap.size w Y) := fun Y hY => HB0.out.trans (hY.mono HB0.out.size)
  go_region_held3 (fun w' => Below W.heap.size W w' ∧ w'.cell? ⟨w.heap.size, 0, none⟩ = some (.slice a1 m.vars.length c1))
    ((refine (fun (hB : Below W.heap.size W _) => ⟨hB, (hB.cell (p := ⟨w.heap.size, 0, none⟩) l0).trans k0⟩ : Below W.heap.size W _ → _) ?_; first | exact (Below.refl _ _).drew | exact fen_call (by assumption) hbq))
    (first
      | (go_at_call 79; refine (HWH.out _ (HTO.out _ (show Below W.heap.size W _ ∧ _ by assumption).1)).mono ?_; rintro e w5 ⟨rfl, hbq⟩; have hB5 := fen_call (by assumption) hbq)
      | (go_at_call 80; refine (HSD.out _ (HTO.out _ (show Below W.heap.size W _ ∧ _ by assumption).1)).mono ?_; rintro e w6 ⟨rfl, hbq⟩; have hB6 := fen_call (by assumption) hbq))
  have HB6 : Hid (Below W.heap.size W w6) := hB6
  have j0 := (hB6.cell (p := ⟨w.heap.size, 0, none⟩) l0).trans k0
  have j1 := (hB6.cell (p := ⟨w.heap.size, 1, none⟩) l0).trans k1
  have j2 := (hB6.cell (p := ⟨w.heap.size, 2, none⟩) l0).trans k2
  have j3 := (hB6.cell (p := ⟨w.heap.size, 3, none⟩) l0).trans k3
  have jl : w.heap.size < w6.heap.size := Nat.lt_of_lt_of_le l0 hB6.size
  clear hbq hB6 hB5 hbits k0 k1 k2 k3
  go_upto_region 2 with (fail)
  have HT6 : Hid (∀ Y, Below w6.heap.size w6 Y → Below w.heap.size w Y) := fun Y hY => HTO.out _ (HB6.out.trans (hY.mono HB6.out.size))
  have HWY : Hid (∀ Y pv, Below w6.heap.size w6 Y → PArg Y pv pts → Calls Tryz.prog 81 #[.slice a1 m.vars.length c1, pv, .slice a4 (List.length any) c4, .int .u64 (g0 : Int)] Y fun e w' => ∃ x, e = .returned x ∧ LOwn Y.heap.size w' x (whyP m.vars pts any g0) ∧ Below Y.heap.size Y w') := fun Y pv hY hp =>
    why_any m.vars (vars_all m HM.out) pts any HLA.out g0 HGW.out _ _ _ Y (HMA.out _ (HT6.out _ hY)).1 hp (HU.out _ (HT6.out _ hY)) (HT.out _ (HT6.out _ hY))
  go_region_held3 (fun w' => Below w6.heap.size w6 w' ∧ w'.cell? ⟨w.heap.size, 0, none⟩ = some (.slice a1 m.vars.length c1) ∧ w'.cell? ⟨w.heap.size, 1, none⟩ = some (.slice a2 m.cons.length c2) ∧ w'.cell? ⟨w.heap.size, 2, none⟩ = some (.int .i64 m.goal) ∧ w'.cell? ⟨w.heap.size, 3, none⟩ = some (.int .i64 m.var))
    ((refine (fun (hB : Below w6.heap.size w6 _) => ⟨hB, (hB.cell (p := ⟨w.heap.size, 0, none⟩) jl).trans j0, (hB.cell (p := ⟨w.heap.size, 1, none⟩) jl).trans j1, (hB.cell (p := ⟨w.heap.size, 2, none⟩) jl).trans j2, (hB.cell (p := ⟨w.heap.size, 3, none⟩) jl).trans j3⟩ : Below w6.heap.size w6 _ → _) ?_; first | exact (Below.refl _ _).drew | exact fen_call (by assumption) hbq))
    (first
      | (go_at_call 82; refine (HPT.out _ (HT6.out _ (show Below w6.heap.size w6 _ ∧ _ by assumption).1)).mono ?_; rintro e w7 ⟨xp, rfl, hxp, hbq⟩; obtain ⟨HXP⟩ : Nonempty (Hid (PArg w7 xp pts)) := ⟨hxp⟩; obtain ⟨ap, cp, hpe, _, _⟩ := hxp; subst hpe; have hB7 := fen_call (by assumption) hbq)
      | (go_at_call 81; refine (HWY.out _ _ (show Below w6.heap.size w6 _ ∧ _ by assumption).1 HXP.out).mono ?_; rintro e w8 ⟨xy, rfl, hxy, hbq⟩; obtain ⟨HXY⟩ : Nonempty (Hid (LArg w8 xy (whyP m.vars pts any g0))) := ⟨hxy.arg⟩; obtain ⟨ay, cy, hye⟩ := own_form (show w8.ownsRow _ _ _ _ _ _ from hxy); subst hye; clear hxy; have hB8 := fen_call (by assumption) hbq))
  have HB8 : Hid (Below w.heap.size w w8) := HT6.out _ hB8
  clear hbq hB8 hB7 j0 j1 j2 j3
  go_wp2
  go_ret
  exact ⟨_, rfl, HXY.out, HB8.out⟩
end Go.Proofs.YtijohkhpigjbkaeGreatDoor
/-
  WALKS: package explain: Removed, Failed.
-/
namespace Go.Proofs.YtijohkhpigjbkaeGreatDoor
open Go.RowKit

def conOf (m : Mod) (con : Int) : MCon := m.cons.getD con.toNat noCon
def premA (m : Mod) (con : Int) (s : Sto) (v x : Int) : Cla × Bool × Int :=
  if (filterA m con s).2 = 0 then
    (if v < 0 ∨ (m.vars.length : Int) ≤ v then ([], false, 5)
    else if !hasB (s.getD v.toNat []) x || hasB ((filterA m con s).1.getD v.toNat []) x then ([], false, 0)
    else (reasonP m.vars (conOf m con) s [notL v.toNat x], true, 0))
  else ([], false, (filterA m con s).2)
def pfailA (m : Mod) (con : Int) (s : Sto) : Cla × Bool × Int :=
  if (filterA m con s).2 = 0 then
    (if failedS s || !failedS (filterA m con s).1 then ([], false, 0) else (reasonP m.vars (conOf m con) s [], true, 0))
  else ([], false, (filterA m con s).2)
theorem filterA_ok (m : Mod) (con : Int) (s : Sto) (h : (filterA m con s).2 = 0) : checkM m = 0 ∧ checkV m.vars s = 0 ∧ ∃ (j : Nat) (c : MCon), con = (j : Int) ∧ m.cons[j]? = some c ∧ conOf m con = c ∧ (filterA m con s).1 = filterS c s := by
  unfold filterA at h
  by_cases h1 : checkL m [s] = 0
  · rw [if_pos h1] at h
    by_cases h2 : conCheck m con = 0
    · obtain ⟨o1, o2, o3⟩ := conCheck_ok m con h2
      have hj : con.toNat < m.cons.length := by omega
      have e : m.cons[con.toNat]? = some (conOf m con) := by unfold conOf; rw [List.getD_eq_getElem?_getD, List.getElem?_eq_getElem hj]; rfl
      refine ⟨o1, ?_, con.toNat, conOf m con, by omega, e, rfl, ?_⟩
      · unfold checkL at h1
        rw [if_pos o1] at h1
        exact firstE_all _ h1 _ (by simp)
      · unfold filterA
        rw [if_pos h1, if_pos h2]; rfl
    · rw [if_neg h2] at h; exact absurd h h2
  · rw [if_neg h1] at h; exact absurd h h1

theorem own_at1 {b g n : Nat} (hg : (Value.slice (some ⟨b, 0, none⟩) 1 1).ownBlock = some g) (h : n ≤ b) : n ≤ g := by
  have hgn : g = b := by injection hg with e; exact e.symm
  rw [hgn]; exact h

set_option maxHeartbeats 3200000 in
set_option maxRecDepth 100000 in
theorem removed_any (m : Mod) (con : Int) (s : Sto) (v x : Int) (vs cs sv : Value) (w : World) (hma : MArg w vs cs m) (hsa : RArg w sv s) (hT : TabT w) :
    Calls Tryz.prog 9 #[modV vs cs m, .int .i64 con, sv, .int .i64 v, .int .i64 x] w fun e w' => ∃ y, e = .returned (.tuple #[y, .bool (premA m con s v x).2.1, .int .i64 (premA m con s v x).2.2]) ∧ LArg w' y (premA m con s v x).1 ∧ Below w.heap.size w w' := by
  have HMA : Hid (∀ w', Below w.heap.size w w' → MArg w' vs cs m) := fun w' h => MArg.below h hma
  have HSA : Hid (∀ w', Below w.heap.size w w' → RArg w' sv s) := fun w' h => RArg.below h hsa
  have HT : Hid (∀ w', Below w.heap.size w w' → TabT w') := fun w' h => hT.below h
  obtain ⟨R, hR⟩ : ∃ R, premA m con s v x = R := ⟨_, rfl⟩
  have HR : Hid (premA m con s v x = R) := hR
  rw [hR]
  obtain ⟨⟨a1, c1, rfl, _, _⟩, ⟨a2, c2, rfl, _, _⟩⟩ := hma
  obtain ⟨a3, c3, rfl, hm3, hr3⟩ := hsa
  have HR3 : Hid (∀ (i : Nat) (r : List Int), s[i]? = some r → ∃ b off x, a3 = some ⟨b, off, none⟩ ∧ b < w.heap.size ∧ w.cell? ⟨b, off + i, none⟩ = some x ∧ IArg w x r) := hr3
  unfold maxLen at hm3
  obtain ⟨hm31, hm3⟩ := hm3
  unfold modV
  clear hR hT hr3
  go_enter Tryz.func9, Tryz.ntmps9
  go_wp2_with fail
  refine (filter_any m con s _ _ _ _ (HMA.out _ (below_alloc _ _)) (HSA.out _ (below_alloc _ _))).mono ?_
  rintro e w1 ⟨y, rfl, hy, hb1⟩
  have HB1 : Hid (Below w.heap.size w w1) := (below_alloc _ _).trans (hb1.mono (by simp))
  have l1 : w.heap.size < w1.heap.size := by have := hb1.size; simp at this; omega
  have k0 : w1.cell? ⟨w.heap.size, 0, none⟩ = some (.slice a1 m.vars.length c1) := (hb1.cell (by simp)).trans (World.cell?_alloc_at _ _ _ 0 (by simp))
  have k1 : w1.cell? ⟨w.heap.size, 1, none⟩ = some (.slice a2 m.cons.length c2) := (hb1.cell (by simp)).trans (World.cell?_alloc_at _ _ _ 1 (by simp))
  have k2 : w1.cell? ⟨w.heap.size, 2, none⟩ = some (.int .i64 m.goal) := (hb1.cell (by simp)).trans (World.cell?_alloc_at _ _ _ 2 (by simp))
  have k3 : w1.cell? ⟨w.heap.size, 3, none⟩ = some (.int .i64 m.var) := (hb1.cell (by simp)).trans (World.cell?_alloc_at _ _ _ 3 (by simp))
  clear hb1
  obtain ⟨F, EF, hF⟩ : ∃ F EF, filterA m con s = (F, EF) := ⟨_, _, rfl⟩
  have HF : Hid (filterA m con s = (F, EF)) := hF
  rw [hF] at hy ⊢
  clear hF
  dsimp only at hy ⊢
  obtain ⟨a5, c5, rfl, hm5, hr5⟩ := hy
  have HR5 : Hid (∀ (i : Nat) (r : List Int), F[i]? = some r → ∃ b off x, a5 = some ⟨b, off, none⟩ ∧ b < w1.heap.size ∧ w1.cell? ⟨b, off + i, none⟩ = some x ∧ IArg w1 x r) := hr5
  unfold maxLen at hm5
  obtain ⟨hm51, hm5⟩ := hm5
  clear hr5
  by_cases hef : EF = 0
  · subst hef
    obtain ⟨o1, o2, j, c, hcon, hc, hcc, hfs⟩ := filterA_ok m con s (by rw [HF.out])
    rw [HF.out] at hfs
    dsimp only at hfs
    have HFS : Hid (F = filterS c s) := hfs
    have HM : Hid (checkM m = 0) := o1
    have HS : Hid (checkV m.vars s = 0) := o2
    have HC : Hid (m.cons[j]? = some c) := hc
    have HCC : Hid (conOf m con = c) := hcc
    subst hcon
    have hsl : s.length = m.vars.length := ((checkV_ok _ _).1 o2).1
    have HSL : Hid (s.length = m.vars.length) := hsl
    have HFL : Hid (F.length = m.vars.length) := by show _ = _; rw [hfs]; unfold filterS; rw [siftS_len, hsl]
    have HR2 : Hid (R = if v < 0 ∨ (m.vars.length : Int) ≤ v then ([], false, 5)
        else if !hasB (s.getD v.toNat []) x || hasB (F.getD v.toNat []) x then ([], false, 0)
        else (reasonP m.vars (conOf m (j : Int)) s [notL v.toNat x], true, 0)) := by
      show _ = _
      rw [← HR.out]
      unfold premA
      rw [HF.out, if_pos rfl]
    clear HR o1 o2 hc hcc hfs hsl
    by_cases hv0 : v < 0
    · have HRF : Hid (R = ([], false, 5)) := by show _ = _; rw [HR2.out, if_pos (Or.inl hv0)]
      clear HR2
      go_wp2
      go_ret3
      exact ⟨_, by rw [HRF.out]; rfl, by rw [HRF.out]; exact nil_cla _, HB1.out⟩
    · by_cases hv1 : (m.vars.length : Int) ≤ v
      · have HRF : Hid (R = ([], false, 5)) := by show _ = _; rw [HR2.out, if_pos (Or.inr hv1)]
        clear HR2
        go_wp2
        go_ret3
        exact ⟨_, by rw [HRF.out]; rfl, by rw [HRF.out]; exact nil_cla _, HB1.out⟩
      · obtain ⟨k, rfl⟩ : ∃ k : Nat, v = (k : Int) := ⟨v.toNat, by omega⟩
        have hkn : k < m.vars.length := by omega
        have hks : k < s.length := by rw [HSL.out]; exact hkn
        have hkf : k < F.length := by rw [HFL.out]; exact hkn
        obtain ⟨r, hr⟩ : ∃ r, s[k]? = some r := ⟨s[k], by simp [hks]⟩
        obtain ⟨q, hq⟩ : ∃ q, F[k]? = some q := ⟨F[k], by simp [hkf]⟩
        have HR4 : Hid (R = if !hasB r x || hasB q x then ([], false, 0) else (reasonP m.vars c s [notL k x], true, 0)) := by
          show _ = _
          rw [HR2.out, if_neg (by omega), Int.toNat_natCast, HCC.out, List.getD_eq_getElem?_getD, hr, List.getD_eq_getElem?_getD, hq]; rfl
        obtain ⟨b3, o3, x3, hx3, hb3, e3, i3⟩ := HR3.out k r hr
        subst hx3
        obtain ⟨b5, o5, x5, hx5, hb5, e5, i5⟩ := HR5.out k q hq
        subst hx5
        have e3' := (HB1.out.cell (p := ⟨b3, o3 + k, none⟩) hb3).trans e3
        have HI3 : Hid (IArg w1 x3 r) := IArg.below HB1.out i3
        have HI5 : Hid (IArg w1 x5 q) := i5
        obtain ⟨a6, c6, rfl, _, _⟩ := i3
        obtain ⟨a7, c7, rfl, _, _⟩ := i5
        clear HR2 hr hq e3 hb3
        cases hq1 : hasB r x
        · have HRF : Hid (R = ([], false, 0)) := by show _ = _; rw [HR4.out, hq1]; rfl
          go_wp2_with fail
          refine (contains_ints r _ x _ HI3.out).mono ?_
          rintro e w1 ⟨rfl, rfl⟩
          rw [hq1]
          go_wp2
          go_ret3
          exact ⟨_, by rw [HRF.out]; rfl, by rw [HRF.out]; exact nil_cla _, HB1.out⟩
        · cases hq2 : hasB q x
          · have HRF : Hid (R = (reasonP m.vars c s [notL k x], true, 0)) := by show _ = _; rw [HR4.out, hq1, hq2]; rfl
            clear HR4
            go_wp2_with fail
            refine (contains_ints r _ x _ HI3.out).mono ?_
            rintro e w1 ⟨rfl, rfl⟩
            rw [hq1]
            go_wp2_with fail
            refine (contains_ints q _ x _ HI5.out).mono ?_
            rintro e w1 ⟨rfl, rfl⟩
            rw [hq2]
            clear hq1 hq2 e3' e5 hb5
            have HOW0 : Hid (LOwn w1.heap.size (w1.alloc (.cells #[.int .i64 (k : Int), .int .i64 4, .int .i64 x] 42)) (.slice (some ⟨w1.heap.size, 0, none⟩) 1 1) [notL k x]) := World.ownsRow_lit (e := 42) (size := 3) w1 #[.int .i64 (k : Int), .int .i64 4, .int .i64 x] 1 (Nat.le_refl _) (by unfold maxLen; omega) rfl
            have HLA0 : Hid (LArg (w1.alloc (.cells #[.int .i64 (k : Int), .int .i64 4, .int .i64 x] 42)) (.slice (some ⟨w1.heap.size, 0, none⟩) 1 1) [notL k x]) := HOW0.out.arg
            have HBA : Hid (Below w.heap.size w (w1.alloc (.cells #[.int .i64 (k : Int), .int .i64 4, .int .i64 x] 42))) := HB1.out.alloc HB1.out.size _
            go_wp2_with fail
            refine (xwhy_any m HM.out j c HC.out s HS.out [notL k x] (by simp) _ _ _ _ _ (HMA.out _ HBA.out) (HSA.out _ HBA.out) HLA0.out (HT.out _ HBA.out)).mono ?_
            rintro e w2 ⟨z, rfl, hz, hb2⟩
            have HB2 : Hid (Below w.heap.size w w2) := HBA.out.trans (hb2.mono (by have := HB1.out.size; simp; omega))
            have HZ : Hid (LArg w2 z (reasonP m.vars c s [notL k x])) := hz
            obtain ⟨az, cz, rfl, _, _⟩ := hz
            clear hb2
            go_wp2
            go_ret3
            exact ⟨_, by rw [HRF.out]; rfl, by rw [HRF.out]; exact HZ.out, HB2.out⟩
          · have HRF : Hid (R = ([], false, 0)) := by show _ = _; rw [HR4.out, hq1, hq2]; rfl
            go_wp2_with fail
            refine (contains_ints r _ x _ HI3.out).mono ?_
            rintro e w1 ⟨rfl, rfl⟩
            rw [hq1]
            go_wp2_with fail
            refine (contains_ints q _ x _ HI5.out).mono ?_
            rintro e w1 ⟨rfl, rfl⟩
            rw [hq2]
            go_wp2
            go_ret3
            exact ⟨_, by rw [HRF.out]; rfl, by rw [HRF.out]; exact nil_cla _, HB1.out⟩
  · have HRF : Hid (R = ([], false, EF)) := by
      show _ = _
      rw [← HR.out]
      unfold premA
      rw [HF.out, if_neg hef]
    have he2 : (EF != 0) = true := by simpa using hef
    clear hef
    go_wp2
    go_ret3
    exact ⟨_, by rw [HRF.out]; rfl, by rw [HRF.out]; exact nil_cla _, HB1.out⟩

set_option maxHeartbeats 3200000 in
set_option maxRecDepth 100000 in
theorem failure_any (m : Mod) (con : Int) (s : Sto) (vs cs sv : Value) (w : World) (hma : MArg w vs cs m) (hsa : RArg w sv s) (hT : TabT w) :
    Calls Tryz.prog 19 #[modV vs cs m, .int .i64 con, sv] w fun e w' => ∃ y, e = .returned (.tuple #[y, .bool (pfailA m con s).2.1, .int .i64 (pfailA m con s).2.2]) ∧ LArg w' y (pfailA m con s).1 ∧ Below w.heap.size w w' := by
  have HMA : Hid (∀ w', Below w.heap.size w w' → MArg w' vs cs m) := fun w' h => MArg.below h hma
  have HSA : Hid (∀ w', Below w.heap.size w w' → RArg w' sv s) := fun w' h => RArg.below h hsa
  have HT : Hid (∀ w', Below w.heap.size w w' → TabT w') := fun w' h => hT.below h
  obtain ⟨R, hR⟩ : ∃ R, pfailA m con s = R := ⟨_, rfl⟩
  have HR : Hid (pfailA m con s = R) := hR
  rw [hR]
  obtain ⟨⟨a1, c1, rfl, _, _⟩, ⟨a2, c2, rfl, _, _⟩⟩ := hma
  obtain ⟨a3, c3, rfl, _, _⟩ := hsa
  unfold modV
  clear hR hT
  go_enter Tryz.func19, Tryz.ntmps19
  go_wp2_with fail
  refine (filter_any m con s _ _ _ _ (HMA.out _ (below_alloc _ _)) (HSA.out _ (below_alloc _ _))).mono ?_
  rintro e w1 ⟨y, rfl, hy, hb1⟩
  have HB1 : Hid (Below w.heap.size w w1) := (below_alloc _ _).trans (hb1.mono (by simp))
  have l1 : w.heap.size < w1.heap.size := by have := hb1.size; simp at this; omega
  have k0 : w1.cell? ⟨w.heap.size, 0, none⟩ = some (.slice a1 m.vars.length c1) := (hb1.cell (by simp)).trans (World.cell?_alloc_at _ _ _ 0 (by simp))
  have k1 : w1.cell? ⟨w.heap.size, 1, none⟩ = some (.slice a2 m.cons.length c2) := (hb1.cell (by simp)).trans (World.cell?_alloc_at _ _ _ 1 (by simp))
  have k2 : w1.cell? ⟨w.heap.size, 2, none⟩ = some (.int .i64 m.goal) := (hb1.cell (by simp)).trans (World.cell?_alloc_at _ _ _ 2 (by simp))
  have k3 : w1.cell? ⟨w.heap.size, 3, none⟩ = some (.int .i64 m.var) := (hb1.cell (by simp)).trans (World.cell?_alloc_at _ _ _ 3 (by simp))
  clear hb1
  obtain ⟨F, EF, hF⟩ : ∃ F EF, filterA m con s = (F, EF) := ⟨_, _, rfl⟩
  have HF : Hid (filterA m con s = (F, EF)) := hF
  rw [hF] at hy ⊢
  clear hF
  dsimp only at hy ⊢
  have HY : Hid (RArg w1 y F) := hy
  obtain ⟨a5, c5, rfl, _, _⟩ := hy
  by_cases hef : EF = 0
  · subst hef
    obtain ⟨o1, o2, j, c, hcon, hc, hcc, hfs⟩ := filterA_ok m con s (by rw [HF.out])
    have HM : Hid (checkM m = 0) := o1
    have HS : Hid (checkV m.vars s = 0) := o2
    have HC : Hid (m.cons[j]? = some c) := hc
    have HCC : Hid (conOf m con = c) := hcc
    subst hcon
    have HR2 : Hid (R = if failedS s || !failedS F then ([], false, 0) else (reasonP m.vars c s [], true, 0)) := by
      show _ = _
      rw [← HR.out]
      unfold pfailA
      rw [HF.out, if_pos rfl, HCC.out]
    clear HR o1 o2 hc hcc hfs
    cases hq1 : failedS s
    · cases hq2 : failedS F
      · have HRF : Hid (R = ([], false, 0)) := by show _ = _; rw [HR2.out, hq1, hq2]; rfl
        go_wp2_with fail
        refine (sift_failed s _ _ (HSA.out _ HB1.out)).mono ?_
        rintro e w1 ⟨rfl, rfl⟩
        rw [hq1]
        go_wp2_with fail
        refine (sift_failed F _ _ HY.out).mono ?_
        rintro e w1 ⟨rfl, rfl⟩
        rw [hq2]
        go_wp2
        go_ret3
        exact ⟨_, by rw [HRF.out]; rfl, by rw [HRF.out]; exact nil_cla _, HB1.out⟩
      · have HRF : Hid (R = (reasonP m.vars c s [], true, 0)) := by show _ = _; rw [HR2.out, hq1, hq2]; rfl
        go_wp2_with fail
        refine (sift_failed s _ _ (HSA.out _ HB1.out)).mono ?_
        rintro e w1 ⟨rfl, rfl⟩
        rw [hq1]
        go_wp2_with fail
        refine (sift_failed F _ _ HY.out).mono ?_
        rintro e w1 ⟨rfl, rfl⟩
        rw [hq2]
        clear hq1 hq2 HR2
        go_wp2_with fail
        refine (xwhy_any m HM.out j c HC.out s HS.out [] (by simp) _ _ _ _ _ (HMA.out _ HB1.out) (HSA.out _ HB1.out) (nil_cla _) (HT.out _ HB1.out)).mono ?_
        rintro e w2 ⟨z, rfl, hz, hb2⟩
        have HZ : Hid (LArg w2 z (reasonP m.vars c s [])) := hz
        obtain ⟨az, cz, rfl, _, _⟩ := hz
        have HB2 : Hid (Below w.heap.size w w2) := HB1.out.trans (hb2.mono HB1.out.size)
        clear hb2
        go_wp2
        go_ret3
        exact ⟨_, by rw [HRF.out]; rfl, by rw [HRF.out]; exact HZ.out, HB2.out⟩
    · have HRF : Hid (R = ([], false, 0)) := by show _ = _; rw [HR2.out, hq1]; rfl
      go_wp2_with fail
      refine (sift_failed s _ _ (HSA.out _ HB1.out)).mono ?_
      rintro e w1 ⟨rfl, rfl⟩
      rw [hq1]
      go_wp2
      go_ret3
      exact ⟨_, by rw [HRF.out]; rfl, by rw [HRF.out]; exact nil_cla _, HB1.out⟩
  · have HRF : Hid (R = ([], false, EF)) := by
      show _ = _
      rw [← HR.out]
      unfold pfailA
      rw [HF.out, if_neg hef]
    have he2 : (EF != 0) = true := by simpa using hef
    clear hef
    go_wp2
    go_ret3
    exact ⟨_, by rw [HRF.out]; rfl, by rw [HRF.out]; exact nil_cla _, HB1.out⟩
end Go.Proofs.YtijohkhpigjbkaeGreatDoor
/-
  PLAIN: the constraint of two(), and its scope.
-/
namespace Go.Proofs.YtijohkhpigjbkaeGreatDoor

def twoC : MCon := ⟨1, [0, 1], [1, -1], -1, [], []⟩
theorem sort_01 : sortI [0, 1] = [0, 1] := by
  unfold sortI
  exact List.mergeSort_of_pairwise (by decide)
theorem two_scopeC : scopeC twoC = [0, 1] := by
  have h1 : scopeL twoC = [0, 1] := by rfl
  unfold scopeC
  rw [h1, sort_01]
  decide
end Go.Proofs.YtijohkhpigjbkaeGreatDoor
/-
  PLAIN: the points of two()'s constraint.
-/
namespace Go.Proofs.YtijohkhpigjbkaeGreatDoor

def twoP : List Nat := [129, 257, 258]
theorem two_points : pointsP twoM.vars twoC = twoP := by
  unfold pointsP
  rw [two_scopeC]
  decide +kernel
theorem two_con0 : twoM.cons.getD (0 : Int).toNat noCon = twoC := rfl
end Go.Proofs.YtijohkhpigjbkaeGreatDoor
/-
  WALKS: package store: Begin.
-/
namespace Go.Proofs.YtijohkhpigjbkaeGreatDoor
open Go.RowKit

def spanN (lo : Int) (j : Nat) : List Int := (List.range j).map fun (k : Nat) => lo + (k : Int)
theorem spanN_next (lo : Int) (j : Nat) : spanN lo (j + 1) = spanN lo j ++ [lo + j] := by simp [spanN, List.range_succ]
theorem spanN_len (lo : Int) (j : Nat) : (spanN lo j).length = j := by simp [spanN]
theorem spanR_eq (lo hi : Int) : spanR lo hi = spanN lo (hi + 1 - lo).toNat := rfl
theorem checkL_nil (m : Mod) : checkL m [] = checkM m := by
  unfold checkL; simp only [List.map_nil, firstE]
  by_cases h : checkM m = 0
  · rw [if_pos h, h]
  · rw [if_neg h]
def beginA (m : Mod) : Sto × Int := if checkM m = 0 then (beginS m.vars, 0) else ([], checkM m)

end Go.Proofs.YtijohkhpigjbkaeGreatDoor
/-
  WALK: the reference's SameInts.
-/
namespace Go.Proofs.YtijohkhpigjbkaeGreatDoor
open Go.RowKit

theorem take_same {α : Type} (a b : List α) (m : Nat) (x : α) (h : a.take m = b.take m) (ha : a[m]? = some x) (hb : b[m]? = some x) : a.take (m + 1) = b.take (m + 1) := by
  rw [List.take_add_one, List.take_add_one, h, ha, hb]
theorem same_end {α : Type} (a b : List α) (m : Nat) (h : a.take m = b.take m) (ha : ¬ m < a.length) (hl : a.length = b.length) : a = b := by
  rwa [List.take_of_length_le (by omega), List.take_of_length_le (by omega)] at h
theorem not_same {α : Type} (a b : List α) (m : Nat) (x y : α) (ha : a[m]? = some x) (hb : b[m]? = some y) (h : x ≠ y) : a ≠ b := by
  intro e; subst e; rw [ha] at hb; cases hb; exact h rfl

set_option maxHeartbeats 800000 in
set_option maxRecDepth 100000 in
theorem sameints_any (l k : List Int) (v u : Value) (w : World) (hv : IArg w v l) (hu : IArg w u k) :
    Calls Tryz.prog 61 #[v, u] w fun e w' => e = .returned (.bool (decide (l = k))) ∧ ∃ n, w' = w.drewN n := by
  obtain ⟨a, c, rfl, hm, hr⟩ := hv
  obtain ⟨a', c', rfl, hm', hr'⟩ := hu
  have HV : Hid (∀ (i : Nat) (z : Int), l[i]? = some z → ∃ b off, a = some ⟨b, off, none⟩ ∧ b < w.heap.size ∧ w.cell? ⟨b, off + i, none⟩ = some (.int .i64 z)) := hr
  have HV' : Hid (∀ (i : Nat) (z : Int), k[i]? = some z → ∃ b off, a' = some ⟨b, off, none⟩ ∧ b < w.heap.size ∧ w.cell? ⟨b, off + i, none⟩ = some (.int .i64 z)) := hr'
  obtain ⟨R, hR⟩ : ∃ R, decide (l = k) = R := ⟨_, rfl⟩
  rw [hR]
  have HR : Hid (decide (l = k) = R) := hR
  unfold maxLen at hm hm'
  obtain ⟨hm1, hm⟩ := hm
  obtain ⟨hm1', hm'⟩ := hm'
  clear hr hr' hR
  by_cases hl : l.length = k.length
  · have HL : Hid (l.length = k.length) := hl
    have g0 : ((l.length : Int) != (k.length : Int)) = false := by simp [hl]
    clear hl
    go_enter Tryz.func61, Tryz.ntmps61
    go_wp2_with fail
    go_loopw [5] (fun i wr => ∃ m : Nat, m ≤ l.length ∧ i = .int .i64 m ∧ Hid (l.take m = k.take m) ∧ ∃ n, wr = w.drewN n) (fun i _ => l.length - (intOf i).toNat)
    case atStart => exact ⟨0, by omega, rfl, rfl, 0, rfl⟩
    case round =>
      obtain ⟨m, hml, rfl, hall, nq, rfl⟩ := hrel
      by_cases hlt : m < l.length
      · have hlt' : m < k.length := by rw [← HL.out]; exact hlt
        obtain ⟨x, hx⟩ : ∃ x, l[m]? = some x := ⟨l[m], by simp [hlt]⟩
        obtain ⟨y, hy⟩ : ∃ y, k[m]? = some y := ⟨k[m], by simp [hlt']⟩
        obtain ⟨b, off, ha, hb, hc⟩ := HV.out m x hx
        obtain ⟨b', off', ha', hb', hd⟩ := HV'.out m y hy
        have HX : Hid (l[m]? = some x) := hx
        have HY : Hid (k[m]? = some y) := hy
        subst ha; subst ha'
        clear hx hy
        by_cases hq : x = y
        · subst hq
          have HN : Hid (l.take (m + 1) = k.take (m + 1)) := take_same l k m x hall.out HX.out HY.out
          go_wp2
          go_quiet (fail)
          go_wp2
          go_roundw
          case rel => exact ⟨m + 1, by omega, by go_num, HN, _, rfl⟩
          case measure => simp [intOf]; omega
        · have HN : Hid (R = false) := by rw [← HR.out]; exact decide_eq_false (not_same l k m x y HX.out HY.out hq)
          have hq2 : (x != y) = true := by simpa using hq
          clear hq
          go_wp2
          go_quiet (fail)
          go_wp2
          go_ret
          exact ⟨ret_bool HN.out.symm, _, drewN_drewN _ _ _⟩
      · have HN : Hid (R = true) := by rw [← HR.out]; exact decide_eq_true (same_end l k m hall.out hlt HL.out)
        go_wp2
        go_ret
        exact ⟨ret_bool HN.out.symm, _, rfl⟩
  · have HN : Hid (R = false) := by rw [← HR.out]; exact decide_eq_false (fun h => hl (by rw [h]))
    have g0 : ((l.length : Int) != (k.length : Int)) = true := by simp; omega
    clear hl
    go_enter Tryz.func61, Tryz.ntmps61
    go_wp2
    go_ret
    exact ⟨ret_bool HN.out.symm, 0, rfl⟩

end Go.Proofs.YtijohkhpigjbkaeGreatDoor
/-
  WALK: the reference's SameStore.
-/
namespace Go.Proofs.YtijohkhpigjbkaeGreatDoor
open Go.RowKit

set_option maxHeartbeats 800000 in
set_option maxRecDepth 100000 in
theorem samestore_any (s t : Sto) (v u : Value) (w : World) (hv : RArg w v s) (hu : RArg w u t) :
    Calls Tryz.prog 44 #[v, u] w fun e w' => e = .returned (.bool (decide (s = t))) ∧ ∃ n, w' = w.drewN n := by
  obtain ⟨a, c, rfl, hm, hr⟩ := hv
  obtain ⟨a', c', rfl, hm', hr'⟩ := hu
  have HV : Hid (∀ (i : Nat) (r : List Int), s[i]? = some r → ∃ b off x, a = some ⟨b, off, none⟩ ∧ b < w.heap.size ∧ w.cell? ⟨b, off + i, none⟩ = some x ∧ IArg w x r) := hr
  have HV' : Hid (∀ (i : Nat) (r : List Int), t[i]? = some r → ∃ b off x, a' = some ⟨b, off, none⟩ ∧ b < w.heap.size ∧ w.cell? ⟨b, off + i, none⟩ = some x ∧ IArg w x r) := hr'
  obtain ⟨R, hR⟩ : ∃ R, decide (s = t) = R := ⟨_, rfl⟩
  rw [hR]
  have HR : Hid (decide (s = t) = R) := hR
  unfold maxLen at hm hm'
  obtain ⟨hm1, hm⟩ := hm
  obtain ⟨hm1', hm'⟩ := hm'
  clear hr hr' hR
  by_cases hl : s.length = t.length
  · have HL : Hid (s.length = t.length) := hl
    have g0 : ((s.length : Int) != (t.length : Int)) = false := by simp [hl]
    clear hl
    go_enter Tryz.func44, Tryz.ntmps44
    go_wp2_with fail
    go_loopw [5] (fun i wr => ∃ m : Nat, m ≤ s.length ∧ i = .int .i64 m ∧ Hid (s.take m = t.take m) ∧ ∃ n, wr = w.drewN n) (fun i _ => s.length - (intOf i).toNat)
    case atStart => exact ⟨0, by omega, rfl, rfl, 0, rfl⟩
    case round =>
      obtain ⟨m, hml, rfl, hall, nq, rfl⟩ := hrel
      by_cases hlt : m < s.length
      · have hlt' : m < t.length := by rw [← HL.out]; exact hlt
        obtain ⟨x, hx⟩ : ∃ x, s[m]? = some x := ⟨s[m], by simp [hlt]⟩
        obtain ⟨y, hy⟩ : ∃ y, t[m]? = some y := ⟨t[m], by simp [hlt']⟩
        obtain ⟨b, off, vx, ha, hb, hc, hix⟩ := HV.out m x hx
        obtain ⟨b', off', vy, ha', hb', hd, hiy⟩ := HV'.out m y hy
        have HX : Hid (s[m]? = some x) := hx
        have HY : Hid (t[m]? = some y) := hy
        have HIX : Hid (IArg w vx x) := hix
        have HIY : Hid (IArg w vy y) := hiy
        obtain ⟨a5, c5, rfl, _, _⟩ := hix
        obtain ⟨a6, c6, rfl, _, _⟩ := hiy
        subst ha; subst ha'
        clear hx hy
        have HS : Hid (∀ p q, Calls Tryz.prog 61 #[.slice a5 x.length c5, .slice a6 y.length c6] (w.drewN (p + q)) fun e w' => e = .returned (.bool (decide (x = y))) ∧ ∃ n, w' = w.drewN (p + n)) := by
          intro p q
          refine (sameints_any x y _ _ (w.drewN (p + q)) HIX.out HIY.out).mono ?_
          rintro e w' ⟨rfl, n, rfl⟩
          exact ⟨rfl, q + n, by rw [drewN_drewN, Nat.add_assoc]⟩
        by_cases hq : x = y
        · have hq2 : decide (x = y) = true := decide_eq_true hq
          have HN : Hid (s.take (m + 1) = t.take (m + 1)) := take_same s t m x hall.out HX.out (by rw [hq]; exact HY.out)
          rw [hq2] at HS
          clear hq hq2
          go_wp2
          go_quiet ((go_at_call 61; exact HS.out _ _))
          go_wp2
          go_roundw
          case rel => exact ⟨m + 1, by omega, by go_num, HN, _, rfl⟩
          case measure => simp [intOf]; omega
        · have hq2 : decide (x = y) = false := decide_eq_false hq
          have HN : Hid (R = false) := by rw [← HR.out]; exact decide_eq_false (not_same s t m x y HX.out HY.out hq)
          rw [hq2] at HS
          clear hq hq2
          go_wp2
          go_quiet ((go_at_call 61; exact HS.out _ _))
          go_wp2
          go_ret
          exact ⟨ret_bool HN.out.symm, _, drewN_drewN _ _ _⟩
      · have HN : Hid (R = true) := by rw [← HR.out]; exact decide_eq_true (same_end s t m hall.out hlt HL.out)
        go_wp2
        go_ret
        exact ⟨ret_bool HN.out.symm, _, rfl⟩
  · have HN : Hid (R = false) := by rw [← HR.out]; exact decide_eq_false (fun h => hl (by rw [h]))
    have g0 : ((s.length : Int) != (t.length : Int)) = true := by simp; omega
    clear hl
    go_enter Tryz.func44, Tryz.ntmps44
    go_wp2
    go_ret
    exact ⟨ret_bool HN.out.symm, 0, rfl⟩
end Go.Proofs.YtijohkhpigjbkaeGreatDoor
/-
  WALK: storeBegun.
-/
namespace Go.Proofs.YtijohkhpigjbkaeGreatDoor
open Go.RowKit

/-- A store of two rows, written out. -/
theorem lit2 {w : World} (a b : List Int) (B1 B2 B3 : Nat) (h1 : B1 = w.heap.size) (h2 : B2 = w.heap.size + 1) (h3 : B3 = w.heap.size + 2) (ha : a.length ≤ 100) (hb : b.length ≤ 100) :
    RArg (((w.alloc (.cells (a.map (Value.int .i64)).toArray 3)).alloc (.cells (b.map (Value.int .i64)).toArray 3)).alloc (.cells #[.slice (some ⟨B1, 0, none⟩) a.length a.length, .slice (some ⟨B2, 0, none⟩) b.length b.length] 39)) (.slice (some ⟨B3, 0, none⟩) 2 2) [a, b] := by
  subst h1; subst h2; subst h3
  refine ⟨_, 2, rfl, ⟨by simp, by unfold maxLen; omega⟩, fun i r hr => ?_⟩
  match i, hr with
  | 0, hr =>
    cases hr
    refine ⟨_, 0, _, rfl, by simp, World.cell?_alloc_at _ _ _ _ (by simp), ⟨_, _, rfl, ⟨Nat.le_refl _, by unfold maxLen; omega⟩, fun j z hz => ⟨_, 0, rfl, by simp; omega, ?_⟩⟩⟩
    rw [World.cell?_alloc_past _ _ _ (by simp; omega), World.cell?_alloc_past _ _ _ (by simp), World.cell?_alloc_at _ _ _ _ rfl]
    simp [hz]
  | 1, hr =>
    cases hr
    refine ⟨_, 0, _, rfl, by simp, World.cell?_alloc_at _ _ _ _ (by simp), ⟨_, _, rfl, ⟨Nat.le_refl _, by unfold maxLen; omega⟩, fun j z hz => ⟨_, 0, rfl, by simp, ?_⟩⟩⟩
    rw [World.cell?_alloc_past _ _ _ (by simp), World.cell?_alloc_at _ _ _ _ (by simp)]
    simp [hz]

theorem below3 (w : World) (o1 o2 o3 : Obj) : Below w.heap.size w (((w.alloc o1).alloc o2).alloc o3) := ((below_alloc _ _).alloc (by simp) _).alloc (by simp; omega) _
theorem two_begin : beginA twoM = ([[0, 1, 2], [0, 1, 2]], 0) := by unfold beginA; rw [if_pos two_checks]; rfl
theorem two_meet : meetA twoM [[0, 1, 2], [0, 1, 2]] [[1], [0, 2]] = ([[1], [0, 2]], 0) := by
  have h : checkL twoM [[[0, 1, 2], [0, 1, 2]], [[1], [0, 2]]] = 0 := by unfold checkL; rw [if_pos two_checks]; decide
  unfold meetA; rw [if_pos h]; rfl
theorem two_within : withinA twoM [[1], [0, 2]] [[0, 1, 2], [0, 1, 2]] = (true, 0) := by
  have h : checkL twoM [[[1], [0, 2]], [[0, 1, 2], [0, 1, 2]]] = 0 := by unfold checkL; rw [if_pos two_checks]; decide
  unfold withinA; rw [if_pos h]; decide
theorem two_failed : failedA twoM [[0, 1, 2], [0, 1, 2]] = (false, 0) := by
  have h : checkL twoM [[[0, 1, 2], [0, 1, 2]]] = 0 := by unfold checkL; rw [if_pos two_checks]; decide
  unfold failedA; rw [if_pos h]; decide
theorem two_check : checkL twoM [[[1], [0, 2]]] = 0 := by unfold checkL; rw [if_pos two_checks]; decide

end Go.Proofs.YtijohkhpigjbkaeGreatDoor
/-
  WALK: what must be in any case, of reasons (explainBegun of the laws).
-/
namespace Go.Proofs.YtijohkhpigjbkaeGreatDoor
open Go.RowKit

theorem begx_f1 : filterS twoC [[0, 1, 2], [0, 1]] = [[0], [1]] := by unfold filterS staysB metAll; simp only [two_scopeC]; decide +kernel
theorem begx_f2 : filterS twoC [[2], [0]] = [[], []] := by unfold filterS staysB metAll; simp only [two_scopeC]; decide +kernel
theorem begx_c : conCheck twoM 0 = 0 := by unfold conCheck; rw [if_pos two_checks]; decide
theorem begx_a1 : filterA twoM 0 [[0, 1, 2], [0, 1]] = ([[0], [1]], 0) := by
  unfold filterA
  rw [if_pos (show checkL twoM [[[0, 1, 2], [0, 1]]] = 0 by unfold checkL; rw [if_pos two_checks]; decide), if_pos begx_c, two_con0, begx_f1]
theorem begx_a2 : filterA twoM 0 [[2], [0]] = ([[], []], 0) := by
  unfold filterA
  rw [if_pos (show checkL twoM [[[2], [0]]] = 0 by unfold checkL; rw [if_pos two_checks]; decide), if_pos begx_c, two_con0, begx_f2]
theorem begx_con : conOf twoM 0 = twoC := two_con0
theorem begx_no : premA twoM 0 [[0, 1, 2], [0, 1]] 0 0 = ([], false, 0) := by
  unfold premA
  rw [begx_a1]
  rfl
theorem begx_yes : ∃ L, premA twoM 0 [[0, 1, 2], [0, 1]] 0 1 = (L, true, 0) ∧ L.length = 2 := by
  refine ⟨reasonP twoM.vars twoC [[0, 1, 2], [0, 1]] [notL 0 1], ?_, ?_⟩
  · unfold premA
    rw [begx_a1, begx_con]
    rfl
  · unfold reasonP leastP
    rw [two_points]
    decide +kernel
theorem begx_fail : ∃ L, pfailA twoM 0 [[2], [0]] = (L, true, 0) ∧ 0 < L.length ∧ L.length ≤ 36 := by
  refine ⟨reasonP twoM.vars twoC [[2], [0]] [], ?_, ?_, ?_⟩
  · unfold pfailA
    rw [begx_a2, begx_con]
    rfl
  · unfold reasonP leastP
    rw [two_points]
    decide +kernel
  · unfold reasonP
    exact lits_len _ _

set_option maxHeartbeats 3200000 in
set_option maxRecDepth 100000 in
theorem begun_explain (w : World) (hT : TabT w) :
    Calls Tryz.prog 11 #[] w fun e w' => e = .returned (.bool true) ∧ Below w.heap.size w w' := by
  have HT : Hid (∀ w', Below w.heap.size w w' → TabT w') := fun w' h => hT.below h
  clear hT
  obtain ⟨L1, hp1, hl1⟩ := begx_yes
  have HP1 : Hid (premA twoM 0 [[0, 1, 2], [0, 1]] 0 1 = (L1, true, 0)) := hp1
  have HL1 : Hid (L1.length = 2) := hl1
  obtain ⟨L2, hp2, hl2, hl3⟩ := begx_fail
  have HP2 : Hid (pfailA twoM 0 [[2], [0]] = (L2, true, 0)) := hp2
  clear hp1 hp2 hl1
  go_enter Tryz.func11, Tryz.ntmps11
  go_wp2_with fail
  refine (two_any _).mono ?_
  rintro e w1 ⟨vs, cs, rfl, hm, hb1⟩
  have HB1 : Hid (Below w.heap.size w w1) := (below3 _ _ _ _).trans (hb1.mono (by simp; omega))
  have HS : Hid (∀ w' : World, Below w1.heap.size w1 w' → RArg w' (.slice (some ⟨w.heap.size + 2, 0, none⟩) 2 2) [[0, 1, 2], [0, 1]]) := fun w' h => RArg.below (hb1.trans (h.mono hb1.size)) (lit2 (w := w) [0, 1, 2] [0, 1] _ _ _ rfl rfl rfl (by decide) (by decide))
  have HM : Hid (MArg w1 vs cs twoM) := hm
  clear hm hb1
  go_wp2_with fail
  refine (removed_any twoM 0 [[0, 1, 2], [0, 1]] 0 1 _ _ _ _ HM.out (HS.out _ (Below.refl _ _)) (HT.out _ HB1.out)).mono ?_
  rintro e w2 ⟨y, rfl, hy, hb2⟩
  rw [HP1.out] at hy ⊢
  obtain ⟨a1, c1, rfl, _, _⟩ := hy
  have HB2 : Hid (Below w1.heap.size w1 w2) := hb2
  clear hb2 HM
  dsimp only
  go_wp2_with fail
  refine (two_any _).mono ?_
  rintro e w3 ⟨vs, cs, rfl, hm, hb3⟩
  have HB3 : Hid (Below w1.heap.size w1 w3) := HB2.out.trans (hb3.mono HB2.out.size)
  have HM : Hid (MArg w3 vs cs twoM) := hm
  clear hm hb3 HB2
  go_wp2_with fail
  refine (removed_any twoM 0 [[0, 1, 2], [0, 1]] 0 0 _ _ _ _ HM.out (HS.out _ HB3.out) (HT.out _ (HB1.out.trans (HB3.out.mono HB1.out.size)))).mono ?_
  rintro e w4 ⟨y, rfl, hy, hb4⟩
  rw [begx_no] at hy ⊢
  obtain ⟨a2, c2, rfl, _, _⟩ := hy
  have HB4 : Hid (Below w1.heap.size w1 w4) := HB3.out.trans (hb4.mono HB3.out.size)
  clear hb4 HM HB3
  dsimp only
  go_wp2_with fail
  refine (two_any _).mono ?_
  rintro e w5 ⟨vs, cs, rfl, hm, hb5⟩
  have HB5 : Hid (Below w1.heap.size w1 w5) := HB4.out.trans (hb5.mono HB4.out.size)
  have HM : Hid (∀ w', Below w5.heap.size w5 w' → MArg w' vs cs twoM) := fun w' h => MArg.below h hm
  clear hm hb5 HB4
  go_wp2_with fail
  refine (failure_any twoM 0 [[2], [0]] _ _ _ _ (HM.out _ (below3 _ _ _ _)) (lit2 [2] [0] _ _ _ rfl rfl rfl (by decide) (by decide)) (HT.out _ (HB1.out.trans ((HB5.out.trans ((below3 _ _ _ _).mono HB5.out.size)).mono HB1.out.size)))).mono ?_
  rintro e w6 ⟨y, rfl, hy, hb6⟩
  rw [HP2.out] at hy ⊢
  obtain ⟨a3, c3, rfl, _, _⟩ := hy
  have HB6 : Hid (Below w.heap.size w w6) := HB1.out.trans ((HB5.out.trans (((below3 _ _ _ _).trans (hb6.mono (by simp; omega))).mono HB5.out.size)).mono HB1.out.size)
  clear hb6 HM HB5
  dsimp only
  have hl4 : (0 : Int) < (L2.length : Int) := by omega
  rw [HL1.out]
  go_wp2
  go_ret
  exact ⟨rfl, HB6.out⟩
end Go.Proofs.YtijohkhpigjbkaeGreatDoor
/-
  WALKS: package fault: what is wrong with a literal.
-/
namespace Go.Proofs.YtijohkhpigjbkaeGreatDoor
open Go.RowKit

set_option maxHeartbeats 800000 in
set_option maxRecDepth 100000 in
theorem lit_check (vs : List MVar) (l : MLit) (v : Value) (w : World) (hv : VArg w v vs) :
    Calls Tryz.prog 95 #[v, .agg #[.int .i64 l.var, .int .i64 l.op, .int .i64 l.n]] w fun e w' => e = .returned (.int .i64 (litE vs l)) ∧ Below w.heap.size w w' := by
  obtain ⟨a, c, rfl, hm, _⟩ := hv
  unfold maxLen at hm
  obtain ⟨hm1, hm⟩ := hm
  obtain ⟨R, hR⟩ : ∃ R, litE vs l = R := ⟨_, rfl⟩
  rw [hR]
  unfold litE at hR
  by_cases q1 : l.var < 0
  · have HE : Hid (R = 5) := by rw [← hR, if_pos (Or.inl q1)]; rfl
    clear hR
    go_enter Tryz.func95, Tryz.ntmps95
    go_wp2
    go_ret
    exact ⟨ret_int HE.out.symm, below_alloc _ _⟩
  by_cases q2 : (vs.length : Int) ≤ l.var
  · have HE : Hid (R = 5) := by rw [← hR, if_pos (Or.inr q2)]; rfl
    clear hR
    go_enter Tryz.func95, Tryz.ntmps95
    go_wp2
    go_ret
    exact ⟨ret_int HE.out.symm, below_alloc _ _⟩
  rw [if_neg (by omega)] at hR
  by_cases q3 : l.op < 1
  · have HE : Hid (R = 7) := by rw [← hR, if_pos (Or.inl q3)]; rfl
    clear hR
    go_enter Tryz.func95, Tryz.ntmps95
    go_wp2
    go_ret
    exact ⟨ret_int HE.out.symm, below_alloc _ _⟩
  by_cases q4 : 4 < l.op
  · have HE : Hid (R = 7) := by rw [← hR, if_pos (Or.inr q4)]; rfl
    clear hR
    go_enter Tryz.func95, Tryz.ntmps95
    go_wp2
    go_ret
    exact ⟨ret_int HE.out.symm, below_alloc _ _⟩
  rw [if_neg (by omega)] at hR
  by_cases q5 : l.n < -1000
  · have HE : Hid (R = 3) := by rw [← hR, if_pos (Or.inl q5)]; rfl
    clear hR
    go_enter Tryz.func95, Tryz.ntmps95
    go_wp2
    go_ret
    exact ⟨ret_int HE.out.symm, below_alloc _ _⟩
  by_cases q6 : 1000 < l.n
  · have HE : Hid (R = 3) := by rw [← hR, if_pos (Or.inr q6)]; rfl
    clear hR
    go_enter Tryz.func95, Tryz.ntmps95
    go_wp2
    go_ret
    exact ⟨ret_int HE.out.symm, below_alloc _ _⟩
  have HE : Hid (R = 0) := by rw [← hR, if_neg (by omega)]; rfl
  clear hR
  go_enter Tryz.func95, Tryz.ntmps95
  go_wp2
  go_ret
  exact ⟨ret_int HE.out.symm, below_alloc _ _⟩

end Go.Proofs.YtijohkhpigjbkaeGreatDoor
/-
  WALKS: package fault: what is wrong with a clause.
-/
namespace Go.Proofs.YtijohkhpigjbkaeGreatDoor
open Go.RowKit

set_option maxHeartbeats 800000 in
set_option maxRecDepth 100000 in
theorem cla_check (vs : List MVar) (c : Cla) (v u : Value) (w : World) (hv : VArg w v vs) (hu : LArg w u c) :
    Calls Tryz.prog 85 #[v, u] w fun e w' => e = .returned (.int .i64 (claE vs c)) ∧ Below w.heap.size w w' := by
  have HVA : Hid (∀ w' : World, Below w.heap.size w w' → VArg w' v vs) := fun w' h => VArg.below h hv
  obtain ⟨a1, c1, rfl, _, _⟩ := hv
  obtain ⟨a, cc, rfl, hm, hr⟩ := hu
  have HV : Hid (∀ (i : Nat) (t : MLit), c[i]? = some t → ∃ b off, a = some ⟨b, off, none⟩ ∧ b < w.heap.size ∧
    w.cell? ⟨b, off + i * 3, none⟩ = some (.int .i64 t.var) ∧ w.cell? ⟨b, off + i * 3 + 1, none⟩ = some (.int .i64 t.op) ∧ w.cell? ⟨b, off + i * 3 + 2, none⟩ = some (.int .i64 t.n)) := hr
  unfold maxLen at hm
  obtain ⟨hm1, hm⟩ := hm
  obtain ⟨R, hR⟩ : ∃ R, claE vs c = R := ⟨_, rfl⟩
  rw [hR]
  have HE : Hid (R = if 40 < c.length then 2 else firstE (c.map (litE vs))) := by rw [← hR]; rfl
  clear hR hr
  by_cases h40 : 40 < c.length
  · have HN : Hid (R = 2) := by rw [HE.out, if_pos h40]; rfl
    go_enter Tryz.func85, Tryz.ntmps85
    go_wp2
    go_ret
    exact ⟨ret_int HN.out.symm, Below.refl _ _⟩
  · have HE2 : Hid (R = firstE (c.map (litE vs))) := by rw [HE.out, if_neg h40]; rfl
    go_enter Tryz.func85, Tryz.ntmps85
    go_wp2_with fail
    go_loopw [13] (fun i wr => ∃ k : Nat, k ≤ c.length ∧ i = .int .i64 k ∧ Hid (firstE ((c.map (litE vs)).take k) = 0) ∧ Below w.heap.size w wr) (fun i _ => c.length - (intOf i).toNat)
    case atStart => exact ⟨0, by omega, rfl, rfl, Below.refl _ _⟩
    case round =>
      obtain ⟨k, hk, rfl, hall, hbw⟩ := hrel
      by_cases hlt : k < c.length
      · obtain ⟨t, hz⟩ : ∃ z, c[k]? = some z := ⟨c[k], by simp [hlt]⟩
        obtain ⟨b, off, ha, hb, q0, q1, q2⟩ := HV.out k t hz
        have hc0 := (hbw.cell (p := ⟨b, off + k * 3, none⟩) hb).trans q0
        have hc1 := (hbw.cell (p := ⟨b, off + k * 3 + 1, none⟩) hb).trans q1
        have hc2 := (hbw.cell (p := ⟨b, off + k * 3 + 2, none⟩) hb).trans q2
        have hsz := hbw.size
        subst ha
        obtain ⟨er, her⟩ : ∃ er, litE vs t = er := ⟨_, rfl⟩
        have HER : Hid (litE vs t = er) := her
        have HZ : Hid ((c.map (litE vs))[k]? = some er) := by show _ = _; rw [List.getElem?_map, hz, ← her]; rfl
        clear hz q0 q1 q2 her
        go_wp2_with fail
        refine (lit_check vs t _ _ ?_).mono ?_
        · exact HVA.out _ (hbw.alloc hsz _)
        rintro e w2 ⟨rfl, hb2⟩
        rw [HER.out]
        have hB2 : Below w.heap.size w w2 := (hbw.alloc hsz _).trans (hb2.mono (by simp; omega))
        clear hb2
        by_cases he : er = 0
        · subst he
          have HN : Hid (firstE ((c.map (litE vs)).take (k + 1)) = 0) := firstE_step _ k hall.out HZ.out
          go_wp2
          go_roundw
          case rel => exact ⟨k + 1, by omega, by go_num, HN, hB2⟩
          case measure => simp [intOf]; omega
        · have HN : Hid (R = er) := by rw [HE2.out]; exact firstE_hit _ k er hall.out HZ.out he
          have he2 : (er != 0) = true := by simpa using he
          clear he
          go_wp2
          go_ret
          exact ⟨ret_int HN.out.symm, hB2⟩
      · have HN : Hid (R = 0) := by
          have := hall.out
          rw [List.take_of_length_le (by simp; omega)] at this
          rw [HE2.out]; exact this
        go_wp2
        go_ret
        exact ⟨ret_int HN.out.symm, hbw⟩
end Go.Proofs.YtijohkhpigjbkaeGreatDoor
/-
  WALKS: package sift: All, None.
-/
namespace Go.Proofs.YtijohkhpigjbkaeGreatDoor
open Go.RowKit

set_option maxHeartbeats 400000 in
theorem yes_any (x y : Value) (w : World) : Calls Tryz.prog 168 #[x, y] w fun e w' => e = .returned (.bool true) ∧ Below w.heap.size w w' := by
  go_enter Tryz.func168, Tryz.ntmps168
  go_wp2
  go_ret
  exact ⟨rfl, Below.refl _ _⟩
theorem enters_yes (args : Array Value) (w' : World) : Sem.run Tryz.prog (callFunc 168 args) w' = .ok (.enter 168 args) w' := by
  simp [callFunc, go_sem, Tryz.func168, Tryz.f168]

set_option maxHeartbeats 400000 in
theorem all_any (s : Sto) (v : Value) (w : World) (hv : RArg w v s) (hn : s.length ≤ 6) (hr6 : ∀ r ∈ s, r.length ≤ 6) :
    Calls Tryz.prog 116 #[v] w fun e w' => ∃ x, e = .returned x ∧ RArg w' x s ∧ Below w.heap.size w w' := by
  have HV : Hid (RArg w v s) := hv
  have HR6 : Hid (∀ r ∈ s, r.length ≤ 6) := hr6
  obtain ⟨a, c, rfl, _, _⟩ := hv
  clear hr6
  go_enter Tryz.func116, Tryz.ntmps116
  go_wp2_with fail
  refine (sift_any 168 #[] s (fun _ _ => true) _ _ HV.out ⟨enters_yes, fun k r z w' _ _ _ => yes_any _ _ w'⟩ hn HR6.out).mono ?_
  rintro e w1 ⟨x, rfl, hx, hb1⟩
  rw [sift_same s _ (fun _ _ _ _ _ => rfl)] at hx
  have HX : Hid (RArg w1 x s) := hx
  obtain ⟨ax, cx, rfl, _, _⟩ := hx
  go_wp2
  go_ret
  exact ⟨_, rfl, HX.out, hb1⟩

set_option maxHeartbeats 400000 in
theorem none_any (s : Sto) (v : Value) (w : World) (hv : RArg w v s) (hn : s.length ≤ 6) :
    Calls Tryz.prog 173 #[v] w fun e w' => ∃ x, e = .returned x ∧ RArg w' x (clearS s) ∧ Below w.heap.size w w' := by
  obtain ⟨a, c, rfl, _, _⟩ := hv
  obtain ⟨wm, hrun, hrows, hbm⟩ := make_store s.length hn w
  have HX : Hid (RArg wm (.slice (some ⟨w.heap.size, 0, none⟩) s.length s.length) (clearS s)) := by
    obtain ⟨h1, _, _⟩ := hrows []
    have hB : w.heap.size < wm.heap.size := (h1.lt w.heap.size rfl).2
    refine ⟨_, s.length, by rw [clear_len], ⟨by rw [clear_len]; exact Nat.le_refl _, by unfold maxLen; omega⟩, fun i r hr => ?_⟩
    have hi : i < s.length := by rw [← clear_len s]; exact (List.getElem?_eq_some_iff.1 hr).1
    rw [clear_get s i r hr]
    refine ⟨w.heap.size, 0, .slice none 0 0, rfl, hB, ?_, ⟨none, 0, rfl, ⟨Nat.le_refl _, Nat.zero_le _⟩, fun j z hz => by simp at hz⟩⟩
    rw [Nat.zero_add, h1.cellAt i (by omega)]
    simp [hi]
  have HB : Hid (Below w.heap.size w wm) := hbm
  obtain ⟨B, hB⟩ : ∃ B, B = w.heap.size := ⟨_, rfl⟩
  rw [← hB] at hrun HX
  clear hrows hbm hB
  go_enter Tryz.func173, Tryz.ntmps173
  go_wp2
  go_ret
  exact ⟨_, rfl, HX.out, HB.out⟩
end Go.Proofs.YtijohkhpigjbkaeGreatDoor
/-
  WALKS: package narrow: the closures of Unit.
-/
namespace Go.Proofs.YtijohkhpigjbkaeGreatDoor
open Go.RowKit

set_option maxHeartbeats 400000 in
set_option maxRecDepth 100000 in
theorem live_in (l : MLit) (z : Int) (b : Nat) (w : World) (h0 : w.cell? ⟨b, 0, none⟩ = some (.int .i64 l.var)) (h1 : w.cell? ⟨b, 1, none⟩ = some (.int .i64 l.op)) (h2 : w.cell? ⟨b, 2, none⟩ = some (.int .i64 l.n)) :
    Calls Tryz.prog 171 #[.int .i64 z, .pointer (some ⟨b, 0, none⟩)] w fun e w' => e = .returned (.bool (litV z l)) ∧ Below w.heap.size w w' := by
  go_enter Tryz.func171, Tryz.ntmps171
  go_wp2_with fail
  refine (lit_true l z _).mono ?_
  rintro e w1 ⟨rfl, hb1⟩
  go_wp2
  go_ret
  exact ⟨rfl, hb1⟩
theorem enters_livein (args : Array Value) (w' : World) : Sem.run Tryz.prog (callFunc 171 args) w' = .ok (.enter 171 args) w' := by
  simp [callFunc, go_sem, Tryz.func171, Tryz.f171]

set_option maxHeartbeats 800000 in
set_option maxRecDepth 100000 in
theorem live_any (s : Sto) (l : MLit) (v : Value) (b : Nat) (w : World) (hv : RArg w v s) (hb : w.cell? ⟨b, 0, none⟩ = some v) (h0 : 0 ≤ l.var) (h1 : l.var < (s.length : Int)) :
    Calls Tryz.prog 169 #[.agg #[.int .i64 l.var, .int .i64 l.op, .int .i64 l.n], .pointer (some ⟨b, 0, none⟩)] w fun e w' => e = .returned (.bool (liveB s l)) ∧ Below w.heap.size w w' := by
  obtain ⟨a, c, rfl, hm, hr⟩ := hv
  obtain ⟨j, hj⟩ : ∃ j : Nat, l.var = (j : Int) := ⟨l.var.toNat, by omega⟩
  have hjl : j < s.length := by omega
  obtain ⟨r, hrr⟩ : ∃ r, s[j]? = some r := ⟨s[j], by simp [hjl]⟩
  obtain ⟨b9, off9, x, rfl, hb9, g9, hx⟩ := hr j r hrr
  have HX : Hid (IArg w x r) := hx
  obtain ⟨a5, c5, rfl, _, _⟩ := hx
  have HRO : Hid (liveB s l = r.any fun z => litV z l) := by
    show _ = _
    unfold liveB rowOf
    rw [hj, Int.toNat_natCast, List.getD_eq_getElem?_getD, hrr]; rfl
  rw [HRO.out]
  have HJ : Hid (l.var = (j : Int)) := hj
  rw [hj]
  have hbl : b < w.heap.size := World.block_lt_of_cell? w _ hb
  unfold maxLen at hm
  obtain ⟨hm1, hm⟩ := hm
  clear hr hrr hj HRO h0 h1
  go_enter Tryz.func169, Tryz.ntmps169
  go_wp2_with fail
  refine (containsf_ints 171 _ (fun z => litV z l) r _ _ (IArg.below (below_alloc _ _) HX.out) ⟨enters_livein, ?_⟩).mono ?_
  · intro z w' hb'
    refine live_in l z w.heap.size w' ?_ ?_ ?_
    · rw [HJ.out]; exact (hb'.cell (by simp)).trans (World.cell?_alloc_at _ _ _ 0 (by simp))
    · exact (hb'.cell (by simp)).trans (World.cell?_alloc_at _ _ _ 1 (by simp))
    · exact (hb'.cell (by simp)).trans (World.cell?_alloc_at _ _ _ 2 (by simp))
  rintro e w1 ⟨rfl, hb1⟩
  have hb2 : Below w.heap.size w w1 := (below_alloc _ _).trans (hb1.mono (by simp))
  clear hb1
  go_wp2
  go_ret
  exact ⟨rfl, hb2⟩
theorem enters_live (args : Array Value) (w' : World) : Sem.run Tryz.prog (callFunc 169 args) w' = .ok (.enter 169 args) w' := by
  simp [callFunc, go_sem, Tryz.func169, Tryz.f169]

set_option maxHeartbeats 800000 in
set_option maxRecDepth 100000 in
theorem other_any (s : Sto) (l : MLit) (x : Int) (v : Value) (bs bv bo : Nat) (w : World) (hv : RArg w v s) (hb : w.cell? ⟨bs, 0, none⟩ = some v) (h1 : w.cell? ⟨bv, 0, none⟩ = some (.int .i64 x))
    (h2 : w.cell? ⟨bo, 0, none⟩ = some (.func (.func 169) #[] #[.pointer (some ⟨bs, 0, none⟩)])) (h3 : 0 ≤ l.var) (h4 : l.var < (s.length : Int)) :
    Calls Tryz.prog 174 #[.agg #[.int .i64 l.var, .int .i64 l.op, .int .i64 l.n], .pointer (some ⟨bv, 0, none⟩), .pointer (some ⟨bo, 0, none⟩)] w fun e w' => e = .returned (.bool (!decide (l.var = x) && liveB s l)) ∧ Below w.heap.size w w' := by
  have HVA : Hid (∀ w' : World, Below w.heap.size w w' → RArg w' v s) := fun w' h => RArg.below h hv
  have HB : Hid (w.cell? ⟨bs, 0, none⟩ = some v) := hb
  have lb : bs < w.heap.size := World.block_lt_of_cell? w _ hb
  have l1 : bv < w.heap.size := World.block_lt_of_cell? w _ h1
  have l2 : bo < w.heap.size := World.block_lt_of_cell? w _ h2
  clear hb hv
  by_cases hq : l.var = x
  · have g0 : (l.var != x) = false := by simpa using hq
    have HN : Hid ((!decide (l.var = x) && liveB s l) = false) := by show _ = _; rw [decide_eq_true hq]; rfl
    rw [HN.out]
    clear hq
    go_enter Tryz.func174, Tryz.ntmps174
    go_wp2
    go_ret
    exact ⟨rfl, below_alloc _ _⟩
  · have g0 : (l.var != x) = true := by simpa using hq
    have HN : Hid ((!decide (l.var = x) && liveB s l) = liveB s l) := by show _ = _; rw [decide_eq_false hq]; rfl
    rw [HN.out]
    clear hq
    go_enter Tryz.func174, Tryz.ntmps174
    go_wp2_with fail
    refine (live_any s l _ bs _ (HVA.out _ (below_alloc _ _)) ((World.cell?_alloc_past _ _ _ lb).trans HB.out) h3 h4).mono ?_
    rintro e w1 ⟨rfl, hb1⟩
    have hb2 : Below w.heap.size w w1 := (below_alloc _ _).trans (hb1.mono (by simp))
    clear hb1
    go_wp2
    go_ret
    exact ⟨rfl, hb2⟩
theorem enters_other (args : Array Value) (w' : World) : Sem.run Tryz.prog (callFunc 174 args) w' = .ok (.enter 174 args) w' := by
  simp [callFunc, go_sem, Tryz.func174, Tryz.f174]

set_option maxHeartbeats 400000 in
set_option maxRecDepth 100000 in
theorem goes_any (c : Cla) (k : Nat) (z : Int) (u : Value) (bc bv : Nat) (w : World) (hu : LArg w u c) (h1 : w.cell? ⟨bc, 0, none⟩ = some u) (h2 : w.cell? ⟨bv, 0, none⟩ = some (.int .i64 (k : Int))) :
    Calls Tryz.prog 175 #[.int .i64 z, .pointer (some ⟨bc, 0, none⟩), .pointer (some ⟨bv, 0, none⟩)] w fun e w' => e = .returned (.bool (!oneB c k z)) ∧ Below w.heap.size w w' := by
  have HU : Hid (LArg w u c) := hu
  obtain ⟨a, cc, rfl, _, _⟩ := hu
  go_enter Tryz.func175, Tryz.ntmps175
  go_wp2_with fail
  refine (one_of c k z _ _ HU.out).mono ?_
  rintro e w1 ⟨rfl, hb1⟩
  go_wp2
  go_ret
  exact ⟨rfl, hb1⟩
theorem enters_goes (args : Array Value) (w' : World) : Sem.run Tryz.prog (callFunc 175 args) w' = .ok (.enter 175 args) w' := by
  simp [callFunc, go_sem, Tryz.func175, Tryz.f175]

set_option maxHeartbeats 800000 in
set_option maxRecDepth 100000 in
theorem left_any (c : Cla) (j k : Nat) (z : Int) (u : Value) (bc bv bg : Nat) (w : World) (hu : LArg w u c) (h1 : w.cell? ⟨bc, 0, none⟩ = some u) (h2 : w.cell? ⟨bv, 0, none⟩ = some (.int .i64 (j : Int)))
    (h3 : w.cell? ⟨bg, 0, none⟩ = some (.func (.func 175) #[] #[.pointer (some ⟨bc, 0, none⟩), .pointer (some ⟨bv, 0, none⟩)])) :
    Calls Tryz.prog 176 #[.int .i64 (k : Int), .int .i64 z, .pointer (some ⟨bv, 0, none⟩), .pointer (some ⟨bg, 0, none⟩)] w fun e w' => e = .returned (.bool (decide ((k : Int) ≠ (j : Int)) || oneB c k z)) ∧ Below w.heap.size w w' := by
  by_cases hq : (k : Int) = (j : Int)
  · have g0 : ((k : Int) != (j : Int)) = false := by simpa using hq
    have hkj : k = j := by omega
    have HN : Hid ((decide ((k : Int) ≠ (j : Int)) || oneB c k z) = oneB c j z) := by show _ = _; rw [hkj]; simp
    have HG : Hid (Calls Tryz.prog 175 #[.int .i64 z, .pointer (some ⟨bc, 0, none⟩), .pointer (some ⟨bv, 0, none⟩)] w fun e w' => e = .returned (.bool (!oneB c j z)) ∧ Below w.heap.size w w') := goes_any c j z u bc bv w hu h1 h2
    rw [HN.out]
    obtain ⟨B, hB⟩ : ∃ B, oneB c j z = B := ⟨_, rfl⟩
    rw [hB] at HG ⊢
    clear hq hkj hu h1 hB HN
    go_enter Tryz.func176, Tryz.ntmps176
    go_wp2_with fail
    refine HG.out.mono ?_
    rintro e w1 ⟨rfl, hb1⟩
    go_wp2
    go_ret
    exact ⟨by cases B <;> rfl, hb1⟩
  · have g0 : ((k : Int) != (j : Int)) = true := by simpa using hq
    have HN : Hid ((decide ((k : Int) ≠ (j : Int)) || oneB c k z) = true) := by show _ = _; rw [decide_eq_true hq]; rfl
    rw [HN.out]
    clear hq hu h1 h3
    go_enter Tryz.func176, Tryz.ntmps176
    go_wp2
    go_ret
    exact ⟨rfl, Below.refl _ _⟩
theorem enters_left (args : Array Value) (w' : World) : Sem.run Tryz.prog (callFunc 176 args) w' = .ok (.enter 176 args) w' := by
  simp [callFunc, go_sem, Tryz.func176, Tryz.f176]
end Go.Proofs.YtijohkhpigjbkaeGreatDoor
/-
  WALK: package narrow: Unit.
-/
namespace Go.Proofs.YtijohkhpigjbkaeGreatDoor
open Go.RowKit

theorem nb2 (w : World) (o1 o2 : Obj) : Below w.heap.size w ((w.alloc o1).alloc o2) := (below_alloc _ _).alloc (by simp) _
theorem nb3 (w : World) (o1 o2 o3 : Obj) : Below w.heap.size w (((w.alloc o1).alloc o2).alloc o3) := ((below_alloc _ _).alloc (by simp) _).alloc (by simp; omega) _
theorem held_call {w2 Y w3 : World} {A : Prop} (h : Below w2.heap.size w2 Y ∧ A) (hb : Below Y.heap.size Y w3) : Below w2.heap.size w2 w3 := h.1.trans (hb.mono h.1.size)

set_option maxHeartbeats 1600000 in
set_option maxRecDepth 100000 in
theorem unit_any (s : Sto) (c : Cla) (v u : Value) (w : World) (hv : RArg w v s) (hu : LArg w u c) (hc : ClaIn s c) (hn : s.length ≤ 6) (hr6 : ∀ r ∈ s, r.length ≤ 6) :
    Calls Tryz.prog 117 #[v, u] w fun e w' => ∃ x, e = .returned x ∧ RArg w' x (unitS s c) ∧ Below w.heap.size w w' := by
  have HVA : Hid (∀ w' : World, Below w.heap.size w w' → RArg w' v s) := fun w' h => RArg.below h hv
  have HUA : Hid (∀ w' : World, Below w.heap.size w w' → LArg w' u c) := fun w' h => LArg.below h hu
  have HC : Hid (∀ l ∈ c, 0 ≤ l.var ∧ l.var < (s.length : Int)) := hc
  have HR6 : Hid (∀ r ∈ s, r.length ≤ 6) := hr6
  obtain ⟨a1, c1, rfl, hm1, _⟩ := hv
  obtain ⟨a2, c2, rfl, hm2, _⟩ := hu
  unfold maxLen at hm1 hm2
  obtain ⟨hm11, hm1⟩ := hm1
  obtain ⟨hm21, hm2⟩ := hm2
  obtain ⟨F, hF⟩ : ∃ F, failedS s = F := ⟨_, rfl⟩
  have HF : Hid (failedS s = F) := hF
  clear hc hr6 hF
  go_enter Tryz.func117, Tryz.ntmps117
  go_wp2_with fail
  refine (sift_failed s _ _ (HVA.out _ (nb2 _ _ _))).mono ?_
  rintro e w0 ⟨rfl, rfl⟩
  rw [HF.out]
  cases F
  · go_wp2_with fail
    refine (indexf_lits 169 _ (liveB s) c _ _ (HUA.out _ (nb3 _ _ _ _)) ⟨enters_live, ?_⟩).mono ?_
    · intro l w' hl hb'
      exact live_any s l _ w.heap.size w' (HVA.out _ ((nb3 _ _ _ _).trans (hb'.mono (by simp; omega)))) ((hb'.cell (by simp; omega)).trans ((World.cell?_alloc_past _ _ _ (by simp; omega)).trans ((World.cell?_alloc_past _ _ _ (by simp)).trans (World.cell?_alloc_at _ _ _ 0 (by simp))))) (HC.out l hl).1 (HC.out l hl).2
    rintro e w1 ⟨⟨z, rfl, hz⟩, hb1⟩
    have d0 : w1.cell? ⟨w.heap.size, 0, none⟩ = some (.slice a1 s.length c1) := (hb1.cell (by simp; omega)).trans ((World.cell?_alloc_past _ _ _ (by simp; omega)).trans ((World.cell?_alloc_past _ _ _ (by simp)).trans (World.cell?_alloc_at _ _ _ 0 (by simp))))
    have d1 : w1.cell? ⟨w.heap.size + 1, 0, none⟩ = some (.slice a2 c.length c2) := (hb1.cell (by simp)).trans ((World.cell?_alloc_past _ _ _ (by simp)).trans (World.cell?_alloc_at _ _ _ 0 (by simp)))
    have d2 : w1.cell? ⟨w.heap.size + 2, 0, none⟩ = some (.func (.func 169) #[] #[.pointer (some ⟨w.heap.size, 0, none⟩)]) := (hb1.cell (by simp)).trans (World.cell?_alloc_at _ _ _ 0 (by simp))
    have HB1 : Hid (Below w.heap.size w w1) := (nb3 _ _ _ _).trans (hb1.mono (by simp; omega))
    have hs1 : w.heap.size + 3 ≤ w1.heap.size := by simpa using hb1.size
    clear hb1
    rcases hz with ⟨rfl, hno⟩ | ⟨k, t, rfl, ht, hlt⟩
    · have HU : Hid (unitS s c = clearS s) := by show _ = _; rw [unit_none s c HF.out hno, clear_sift]
      clear hno
      go_wp2_with fail
      refine (none_any s _ _ (HVA.out _ HB1.out) hn).mono ?_
      rintro e w2 ⟨x, rfl, hx, hb2⟩
      have HX : Hid (RArg w2 x (clearS s)) := hx
      obtain ⟨ax, cx, rfl, _, _⟩ := hx
      have hB2 : Below w.heap.size w w2 := HB1.out.trans (hb2.mono HB1.out.size)
      clear hb2
      go_wp2
      go_ret
      rw [HU.out]
      exact ⟨_, rfl, HX.out, hB2⟩
    · have HM : Hid (t ∈ c) := List.mem_of_getElem? ht
      have HLV : Hid (liveB s t = true) := hlt
      have hkl : k < c.length := (List.getElem?_eq_some_iff.1 ht).1
      obtain ⟨a2', c2', hva, _, hrc⟩ := HUA.out _ HB1.out
      obtain ⟨b, off, hax, hb, g0, _, _⟩ := hrc k t ht
      have ha2 : a2 = some ⟨b, off, none⟩ := by cases hva; exact hax
      subst ha2
      obtain ⟨q1, q2⟩ := HC.out t HM.out
      obtain ⟨j, hj⟩ : ∃ j : Nat, t.var = (j : Int) := ⟨t.var.toNat, by omega⟩
      have HJ : Hid (t.var = (j : Int)) := hj
      rw [hj] at g0
      have hjl : j < s.length := by omega
      obtain ⟨r, hr⟩ : ∃ r, s[j]? = some r := ⟨s[j], by simp [hjl]⟩
      have HRR : Hid (s[j]? = some r) := hr
      clear hva hrc hax ht hlt q1 q2 hj hr
      have l0 : w.heap.size < w1.heap.size := by omega
      have l1 : w.heap.size + 1 < w1.heap.size := by omega
      have l2 : w.heap.size + 2 < w1.heap.size := by omega
      go_wp2_with fail
      refine (containsf_lits 174 _ (fun l => !decide (l.var = (j : Int)) && liveB s l) c _ _ (HUA.out _ (HB1.out.alloc HB1.out.size _)) ⟨enters_other, ?_⟩).mono ?_
      · intro l w' hl hb'
        exact other_any s l j _ w.heap.size w1.heap.size (w.heap.size + 2) w' (HVA.out _ ((HB1.out.alloc HB1.out.size _).trans (hb'.mono (by simp; omega)))) ((hb'.cell (by simp; omega)).trans ((World.cell?_alloc_past _ _ _ l0).trans d0)) ((hb'.cell (by simp)).trans (World.cell?_alloc_at _ _ _ 0 (by simp))) ((hb'.cell (by simp; omega)).trans ((World.cell?_alloc_past _ _ _ l2).trans d2)) (HC.out l hl).1 (HC.out l hl).2
      rintro e w2 ⟨rfl, hb2⟩
      have e0 : w2.cell? ⟨w.heap.size, 0, none⟩ = some (.slice a1 s.length c1) := (hb2.cell (by simp; omega)).trans ((World.cell?_alloc_past _ _ _ l0).trans d0)
      have e1 : w2.cell? ⟨w.heap.size + 1, 0, none⟩ = some (.slice (some ⟨b, off, none⟩) c.length c2) := (hb2.cell (by simp; omega)).trans ((World.cell?_alloc_past _ _ _ l1).trans d1)
      have e2 : w2.cell? ⟨w1.heap.size, 0, none⟩ = some (.int .i64 (j : Int)) := (hb2.cell (by simp)).trans (World.cell?_alloc_at _ _ _ 0 (by simp))
      have HB2 : Hid (Below w.heap.size w w2) := (HB1.out.alloc HB1.out.size _).trans (hb2.mono (by simp; omega))
      have hs2 : w1.heap.size + 1 ≤ w2.heap.size := by simpa using hb2.size
      obtain ⟨O, hO⟩ : ∃ O, c.any (fun l => !decide (l.var = (j : Int)) && liveB s l) = O := ⟨_, rfl⟩
      have HO : Hid (c.any (fun l => !decide (l.var = t.var) && liveB s l) = O) := by show _ = _; rw [HJ.out]; exact hO
      rw [hO]
      clear hb2 hO d0 d1 d2 g0
      cases O
      · -- all live ones are of one variable
        obtain ⟨W, hW⟩ : ∃ W : World, W = w2.alloc (.cells #[.func (.func 175) #[] #[.pointer (some ⟨w.heap.size + 1, 0, none⟩), .pointer (some ⟨w1.heap.size, 0, none⟩)]] 161) := ⟨_, rfl⟩
        have HW : Hid (W = w2.alloc (.cells #[.func (.func 175) #[] #[.pointer (some ⟨w.heap.size + 1, 0, none⟩), .pointer (some ⟨w1.heap.size, 0, none⟩)]] 161)) := hW
        have m0 : w.heap.size < w2.heap.size := by omega
        have m1 : w.heap.size + 1 < w2.heap.size := by omega
        have m2 : w1.heap.size < w2.heap.size := by omega
        have HBW : Hid (Below w.heap.size w W) := by rw [hW]; exact HB2.out.alloc HB2.out.size _
        have k0 : W.cell? ⟨w.heap.size, 0, none⟩ = some (.slice a1 s.length c1) := by rw [hW]; exact (World.cell?_alloc_past _ _ _ m0).trans e0
        have k1 : W.cell? ⟨w.heap.size + 1, 0, none⟩ = some (.slice (some ⟨b, off, none⟩) c.length c2) := by rw [hW]; exact (World.cell?_alloc_past _ _ _ m1).trans e1
        have k2 : W.cell? ⟨w1.heap.size, 0, none⟩ = some (.int .i64 (j : Int)) := by rw [hW]; exact (World.cell?_alloc_past _ _ _ m2).trans e2
        have k3 : W.cell? ⟨w2.heap.size, 0, none⟩ = some (.func (.func 175) #[] #[.pointer (some ⟨w.heap.size + 1, 0, none⟩), .pointer (some ⟨w1.heap.size, 0, none⟩)]) := by rw [hW]; simp
        have hsW : W.heap.size = w2.heap.size + 1 := by rw [hW]; simp
        have HSW : Hid (W.heap.size = w2.heap.size + 1) := hsW
        have n0 : w.heap.size < W.heap.size := by omega
        have n1 : w.heap.size + 1 < W.heap.size := by omega
        have n2 : w1.heap.size < W.heap.size := by omega
        have n3 : w2.heap.size < W.heap.size := by omega
        obtain ⟨a1', c1', hva, _, hrc⟩ := HVA.out _ HBW.out
        obtain ⟨b9, off9, x, hax, hb9, g9, hix⟩ := hrc j r HRR.out
        have ha1 : a1 = some ⟨b9, off9, none⟩ := by cases hva; exact hax
        subst ha1
        have HIX : Hid (∀ w' : World, Below W.heap.size W w' → IArg w' x r) := fun w' h => IArg.below h hix
        obtain ⟨a5, c5, rfl, _, _⟩ := hix
        have HGO : Hid (∀ Y : World, Below W.heap.size W Y → Calls Tryz.prog 170 #[.slice a5 r.length c5, .func (.func 175) #[] #[.pointer (some ⟨w.heap.size + 1, 0, none⟩), .pointer (some ⟨w1.heap.size, 0, none⟩)]] Y fun e w' => e = .returned (.bool (r.any fun z => !oneB c j z)) ∧ Below Y.heap.size Y w') := by
          intro Y hY
          refine containsf_ints 175 _ (fun z => !oneB c j z) r _ _ (HIX.out _ hY) ⟨enters_goes, ?_⟩
          intro z w' hb'
          have hB' : Below W.heap.size W w' := hY.trans (hb'.mono hY.size)
          exact goes_any c j z _ (w.heap.size + 1) w1.heap.size w' (HUA.out _ (HBW.out.trans (hB'.mono HBW.out.size))) ((hB'.cell (p := ⟨w.heap.size + 1, 0, none⟩) n1).trans k1) ((hB'.cell (p := ⟨w1.heap.size, 0, none⟩) n2).trans k2)
        obtain ⟨G, hG⟩ : ∃ G, (r.any fun z => !oneB c j z) = G := ⟨_, rfl⟩
        have HG : Hid ((r.any fun z => !oneB c j z) = G) := hG
        rw [hG] at HGO
        clear hW hsW hva hrc hax hG e0 e1 e2 HSW
        go_wp2_with fail
        rw [← HW.out]
        clear HW
        go_region_held3 (fun w' => Below W.heap.size W w' ∧ w'.cell? ⟨w.heap.size, 0, none⟩ = some (.slice (some ⟨b9, off9, none⟩) s.length c1) ∧ w'.cell? ⟨w1.heap.size, 0, none⟩ = some (.int .i64 (j : Int)) ∧ w'.cell? ⟨w2.heap.size, 0, none⟩ = some (.func (.func 175) #[] #[.pointer (some ⟨w.heap.size + 1, 0, none⟩), .pointer (some ⟨w1.heap.size, 0, none⟩)]) ∧ w'.cell? ⟨b9, off9 + j, none⟩ = some (.slice a5 r.length c5))
          ((refine (fun (hB : Below W.heap.size W _) => ⟨hB, (hB.cell (p := ⟨w.heap.size, 0, none⟩) n0).trans k0, (hB.cell (p := ⟨w1.heap.size, 0, none⟩) n2).trans k2, (hB.cell (p := ⟨w2.heap.size, 0, none⟩) n3).trans k3, (hB.cell (p := ⟨b9, off9 + j, none⟩) hb9).trans g9⟩ : Below W.heap.size W _ → _) ?_; first | exact (Below.refl _ _).drew | exact held_call (by assumption) hbq))
          (first
            | (go_at_call 170; refine (HGO.out _ (show Below W.heap.size W _ ∧ _ ∧ _ ∧ _ ∧ _ by assumption).1).mono ?_; rintro e w3 ⟨rfl, hbq⟩; have hB3 := held_call (by assumption) hbq))
        have HB3 : Hid (Below W.heap.size W w3) := by first | exact hB3 | assumption
        have HB4 : Hid (Below w.heap.size w w3) := HBW.out.trans (HB3.out.mono HBW.out.size)
        have p0 := (HB3.out.cell (p := ⟨w.heap.size, 0, none⟩) n0).trans k0
        cases G
        · have HU : Hid (unitS s c = s) := unit_stays s c HF.out t HM.out HLV.out HO.out j r HJ.out HRR.out HG.out
          go_wp2
          go_ret
          rw [HU.out]
          exact ⟨_, rfl, HVA.out _ HB4.out, HB4.out⟩
        · have HU : Hid (unitS s c = siftS s (fun k z => decide ((k : Int) ≠ (j : Int)) || oneB c k z)) := by show _ = _; rw [unit_one s c HF.out t HM.out HLV.out HO.out, HJ.out]
          go_wp2_with fail
          refine (sift_any 176 _ s (fun k z => decide ((k : Int) ≠ (j : Int)) || oneB c k z) _ _ (HVA.out _ HB4.out) ⟨enters_left, ?_⟩ hn HR6.out).mono ?_
          · intro k q z w' hk _ hb'
            have hB' : Below W.heap.size W w' := HB3.out.trans (hb'.mono HB3.out.size)
            exact left_any c j k z _ (w.heap.size + 1) w1.heap.size w2.heap.size w' (HUA.out _ (HBW.out.trans (hB'.mono HBW.out.size))) ((hB'.cell (p := ⟨w.heap.size + 1, 0, none⟩) n1).trans k1) ((hB'.cell (p := ⟨w1.heap.size, 0, none⟩) n2).trans k2) ((hB'.cell (p := ⟨w2.heap.size, 0, none⟩) n3).trans k3)
          rintro e w4 ⟨x, rfl, hx, hb4⟩
          obtain ⟨M, hM⟩ : ∃ M, siftS s (fun k z => decide ((k : Int) ≠ (j : Int)) || oneB c k z) = M := ⟨_, rfl⟩
          have HM2 : Hid (unitS s c = M) := HU.out.trans hM
          rw [hM] at hx
          clear hM
          have HX : Hid (RArg w4 x M) := hx
          obtain ⟨ax, cx, rfl, _, _⟩ := hx
          have hB5 : Below w.heap.size w w4 := HB4.out.trans (hb4.mono HB4.out.size)
          clear hb4
          go_wp2
          go_ret
          rw [HM2.out]
          exact ⟨_, rfl, HX.out, hB5⟩
      · have HU : Hid (unitS s c = s) := unit_many s c HF.out t HM.out HLV.out HO.out
        go_wp2
        go_ret
        rw [HU.out]
        exact ⟨_, rfl, HVA.out _ HB2.out, HB2.out⟩
  · have HU : Hid (unitS s c = s) := by show _ = _; unfold unitS; rw [HF.out, if_pos rfl]
    go_wp2
    go_ret
    rw [HU.out]
    exact ⟨_, rfl, HVA.out _ (nb2 _ _ _), nb2 _ _ _⟩
end Go.Proofs.YtijohkhpigjbkaeGreatDoor
