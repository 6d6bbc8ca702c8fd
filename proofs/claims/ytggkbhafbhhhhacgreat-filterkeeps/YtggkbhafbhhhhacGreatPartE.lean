/-
  PART 5 of what the proof leans on (FilD, StoF, RefI, RefA, StoG, TwoPlain, FilE, ModQ2, ModR, ModU, RefB).
-/
import Derived.Test.YtggkbhafbhhhhacGreatPartD
import Derived.Deep.DeepCutAuto
import Derived.Deep.OwnRows
import Derived.Deep.QuietTactic
import Derived.BigQuiet
/-
  WALKS: package filter: which values stay; Filter.
-/
namespace Go.Proofs.YtggkbhafbhhhhacGreat
open Go.RowKit Go.Maps

def staysT (F : Bool) (c : MCon) (scope vals : List Int) (l : List (Int × Int)) (k z : Int) : Bool :=
  if F then true else if scope.length = 0 then holdsC c vals else if hasB scope k then l.contains (k, z) else true

set_option maxHeartbeats 1600000 in
set_option maxRecDepth 100000 in
theorem stays_any (N B V M : Nat) (c : MCon) (vv vc vr vl sv stv : Value) (scope : List Int) (s : Sto) (vals : List Int) (l : List (Int × Int)) (F : Bool) (bf bsc k : Nat) (z : Int) (w : World)
    (hT : TrialS N B V M c vv vc vr vl sv stv scope s vals l w) (hf : w.cell? ⟨bf, 0, none⟩ = some (.bool F)) (hs : w.cell? ⟨bsc, 0, none⟩ = some sv) (hce : conE vals.length c = 0) (hvb : ∀ x ∈ vals, -50 ≤ x ∧ x ≤ 50)
    (hl : ∀ q ∈ l, okPair q) (hk : k ≤ 6) (hz : -50 ≤ z ∧ z ≤ 50) :
    Calls Tryz.prog 18 #[.int .i64 k, .int .i64 z, .pointer (some ⟨bf, 0, none⟩), .pointer (some ⟨bsc, 0, none⟩), .pointer (some ⟨B, 0, none⟩)] w fun e w' => e = .returned (.bool (staysT F c scope vals l k z)) ∧ Below w.heap.size w w' := by
  have HK := hT.parts.1
  have HI : Hid (IArg w sv scope) := hT.parts.2.1
  have HVA : Hid (IArg w (.slice (some ⟨V, 0, none⟩) vals.length vals.length) vals) := hT.vals_arg
  obtain ⟨asv, csv, hsv, hms, _⟩ := hT.parts.2.1
  subst hsv
  have HKK : Hid (KArg w vv vc vr vl c) := HK
  obtain ⟨⟨q1, r1, h1, _, _⟩, ⟨q2, r2, h2, _, _⟩, ⟨q3, r3, h3, _, _⟩, ⟨q4, r4, h4, _, _⟩⟩ := HK
  subst h1; subst h2; subst h3; subst h4
  have b0 := bk_cell hT.2.1 0 _ rfl
  have b1 := bk_cell hT.2.1 1 _ rfl
  have b2 := bk_cell hT.2.1 2 _ rfl
  have b3 := bk_cell hT.2.1 3 _ rfl
  have b4 := bk_cell hT.2.1 4 _ rfl
  have b5 := bk_cell hT.2.1 5 _ rfl
  have b8 := bk_cell hT.2.1 8 _ rfl
  have b9 := bk_cell hT.2.1 9 _ rfl
  have hown := hT.2.2.2.2
  have HHAS : Hid (Maps.has (setP (H := Unit) l) (pairK (k : Int) z) = l.contains ((k : Int), z)) := has_setP l ((k : Int), z) hl ⟨by unfold okInt; simp only; omega, by unfold okInt; simp only; omega⟩
  have hkey : keyOf Tryz.prog 56 (.agg #[.int .i64 (k : Int), .int .i64 z]) = some (pairK (k : Int) z) := keyOf_pair _ _ (by unfold okInt; omega) (by unfold okInt; omega)
  have HCE : Hid (conE vals.length c = 0) := hce
  have HVB : Hid (∀ x ∈ vals, -50 ≤ x ∧ x ≤ 50) := hvb
  unfold maxLen at hms
  obtain ⟨hms1, hms⟩ := hms
  clear hT hl hce hvb
  cases F
  · by_cases h0 : scope.length = 0
    · have HN : Hid (staysT false c scope vals l k z = holdsC c vals) := by show _ = _; unfold staysT; simp [h0]
      have g0 : ((scope.length : Int) == 0) = true := by simp [h0]
      rw [HN.out]
      clear h0 hkey hown
      go_enter Tryz.func18, Tryz.ntmps18
      go_wp2_with fail
      refine (holds_any c vals _ _ _ _ _ _ HKK.out HVA.out HCE.out HVB.out).mono ?_
      rintro e w1 ⟨rfl, hb1⟩
      go_wp2
      go_ret
      exact ⟨rfl, hb1⟩
    · have g0 : ((scope.length : Int) == 0) = false := by simpa using h0
      cases hq : hasB scope (k : Int)
      · have HN : Hid (staysT false c scope vals l k z = true) := by show _ = _; unfold staysT; simp [h0, hq]
        rw [HN.out]
        clear h0 hkey hown
        go_enter Tryz.func18, Tryz.ntmps18
        go_wp2_with fail
        refine (contains_ints scope _ (k : Int) _ HI.out).mono ?_
        rintro e w ⟨rfl, rfl⟩
        rw [hq]
        go_wp2
        go_ret
        exact ⟨rfl, Below.refl _ _⟩
      · have HN : Hid (staysT false c scope vals l k z = l.contains ((k : Int), z)) := by show _ = _; unfold staysT; simp [h0, hq]
        rw [HN.out]
        clear h0
        go_enter Tryz.func18, Tryz.ntmps18
        go_wp2_with fail
        refine (contains_ints scope _ (k : Int) _ HI.out).mono ?_
        rintro e w ⟨rfl, rfl⟩
        rw [hq]
        clear hq
        go_wp2_with (first
          | (at_lookup; refine wpList_lookup_own_unit _ rfl _ _ 48 rfl 56 54 Tryz.pairKeyed Tryz.underPairs (Tryz.unitZero _) M l.length _ rfl hown _ _ rfl hkey ?_)
          | go_in)
        go_ret
        exact ⟨ret_bool HHAS.out, below_alloc _ _⟩
  · have HN : Hid (staysT true c scope vals l k z = true) := rfl
    rw [HN.out]
    clear hkey hown
    go_enter Tryz.func18, Tryz.ntmps18
    go_wp2
    go_ret
    exact ⟨rfl, Below.refl _ _⟩
theorem enters_stays (args : Array Value) (w' : World) : Sem.run Tryz.prog (callFunc 18 args) w' = .ok (.enter 18 args) w' := by
  simp [callFunc, go_sem, Tryz.func18, Tryz.f18]

theorem bl3 (w : World) (o1 o2 o3 : Obj) : (((w.alloc o1).alloc o2).alloc o3).drew.heap[w.heap.size]? = some o1 ∧ (((w.alloc o1).alloc o2).alloc o3).drew.heap[w.heap.size + 1]? = some o2 ∧ (((w.alloc o1).alloc o2).alloc o3).drew.heap[w.heap.size + 1 + 1]? = some o3 := by
  refine ⟨?_, ?_, ?_⟩
  all_goals
    show (((w.heap.push _).push _).push _)[_]? = _
    simp only [Array.getElem?_push, Array.size_push]
    repeat first | rw [if_pos (by omega)] | rw [if_neg (by omega)]
  all_goals simp
theorem owns_none (w : World) (M : Nat) (h : w.heap[M]? = some (.map #[] 0)) : w.ownsMap Tryz.prog 56 unitElem M 0 (setP (H := Unit) []) := by
  obtain ⟨es, clock, hb, F, hs, hd⟩ := World.ownsMap_made (H := Unit) w Tryz.prog 56 unitElem
  have he : (w.alloc (.map #[] 0)).heap[w.heap.size]? = some (.map #[] 0) := by show (w.heap.push _)[w.heap.size]? = _; simp
  rw [he] at hb
  cases hb
  exact ⟨#[], 0, h, F, hs, hd⟩
theorem row_bounds (m : Mod) (s : Sto) (hm : checkM m = 0) (hs : checkV m.vars s = 0) : ∀ r ∈ s, ∀ x ∈ r, -50 ≤ x ∧ x ≤ 50 := by
  obtain ⟨h1, h2, h3⟩ := (checkV_ok _ _).1 hs
  intro r hr x hx
  obtain ⟨i, hi⟩ := List.mem_iff_getElem?.1 hr
  have hil : i < s.length := (List.getElem?_eq_some_iff.1 hi).1
  obtain ⟨v, hv⟩ : ∃ v, m.vars[i]? = some v := ⟨m.vars[i]'(by omega), by simp⟩
  have hvo := var_ok m hm i v hv
  have hin := (all_zip _ _ _).1 h2 i v r hv hi
  have := List.all_eq_true.1 hin x hx
  simp [insideB] at this
  omega
theorem met_ok (c : MCon) (s : Sto) (hb : ∀ r ∈ s, ∀ x ∈ r, -50 ≤ x ∧ x ≤ 50) (hs6 : s.length ≤ 6) (hsc : ∀ v ∈ scopeC c, 0 ≤ v ∧ v < (s.length : Int)) : ∀ q ∈ metAll c s, okPair q := by
  rintro ⟨k, z⟩ hq
  unfold metAll at hq
  rw [mem_metK] at hq
  obtain ⟨u, hu, _, hk, rfl⟩ := hq
  have h1 := hsc k hk
  obtain ⟨v, _, hv, hm⟩ := reach_in s _ _ u (fun v hv => by have := hsc v hv; simp only [zerosOf, List.length_replicate]; omega) hu k hk
  have h2 : -50 ≤ valAt u k ∧ valAt u k ≤ 50 := by
    rw [List.getD_eq_getElem?_getD] at hm
    cases hq : s[v.toNat]? with
    | none => rw [hq] at hm; cases hm
    | some r => rw [hq] at hm; exact hb r (List.mem_of_getElem? hq) _ hm
  exact ⟨by unfold okInt; simp only; omega, by unfold okInt; simp only; omega⟩
theorem zeros_bound (n : Nat) : ∀ x ∈ zerosOf n, -50 ≤ x ∧ x ≤ 50 := by
  intro x hx
  have := List.eq_of_mem_replicate hx
  omega
theorem staysT_eq (c : MCon) (s : Sto) (vals : List Int) (l : List (Int × Int)) (h : failedS s = false → l = metAll c s ∧ ((scopeC c).length = 0 → vals = zerosOf s.length)) (k : Nat) (z : Int) : staysT (failedS s) c (scopeC c) vals l k z = staysB c s k z := by
  unfold staysT staysB
  cases hf : failedS s
  · obtain ⟨h1, h2⟩ := h hf
    by_cases h0 : (scopeC c).length = 0
    · rw [h2 h0]; simp [h0]
    · rw [h1]; simp [h0]
  · rfl

theorem bel3 (w : World) (o1 o2 o3 : Obj) : Below w.heap.size w (((w.alloc o1).alloc o2).alloc o3) := ((below_alloc _ _).alloc (by simp) _).alloc (by simp; omega) _
theorem Tryz.infoInt9 : (Tryz.prog.info? 3).map (fun i => (i.zero, i.size, i.bytes)) = some (some (.int .i64 0), 1, 8) := by kernel_rfl
theorem Tryz.underInts9 : Tryz.prog.underlying 36 = some (.slice 3) := by kernel_rfl

set_option maxHeartbeats 3200000 in
set_option maxRecDepth 100000 in
theorem filter_any (m : Mod) (con : Int) (s : Sto) (vs cs v : Value) (w : World) (hm : MArg w vs cs m) (hv : RArg w v s) :
    Calls Tryz.prog 5 #[modV vs cs m, .int .i64 con, v] w fun e w' => ∃ x, e = .returned (.tuple #[x, .int .i64 (filterA m con s).2]) ∧ RArg w' x (filterA m con s).1 ∧ Below w.heap.size w w' := by
  have HMA : Hid (∀ w' : World, Below w.heap.size w w' → MArg w' vs cs m) := fun w' h => MArg.below h hm
  have HVA : Hid (∀ w' : World, Below w.heap.size w w' → RArg w' v s) := fun w' h => RArg.below h hv
  obtain ⟨⟨a1, c1, rfl, _, _⟩, ⟨a2, c2, rfl, hl2, hr2⟩⟩ := hm
  obtain ⟨a3, c3, rfl, hl3, _⟩ := hv
  have HC : Hid (∀ (i : Nat) (t : MCon), m.cons[i]? = some t → ∃ b off vv vc vr vl, a2 = some ⟨b, off, none⟩ ∧ b < w.heap.size ∧
    w.cell? ⟨b, off + i * 6, none⟩ = some (.int .i64 t.kind) ∧ w.cell? ⟨b, off + i * 6 + 1, none⟩ = some vv ∧ w.cell? ⟨b, off + i * 6 + 2, none⟩ = some vc ∧
    w.cell? ⟨b, off + i * 6 + 3, none⟩ = some (.int .i64 t.n) ∧ w.cell? ⟨b, off + i * 6 + 4, none⟩ = some vr ∧ w.cell? ⟨b, off + i * 6 + 5, none⟩ = some vl ∧ KArg w vv vc vr vl t) := hr2
  unfold maxLen at hl2 hl3
  obtain ⟨hl21, hl2⟩ := hl2
  obtain ⟨hl31, hl3⟩ := hl3
  obtain ⟨R, hR⟩ : ∃ R, filterA m con s = R := ⟨_, rfl⟩
  rw [hR]
  obtain ⟨er, her⟩ : ∃ er, checkL m [s] = er := ⟨_, rfl⟩
  obtain ⟨ec, hec⟩ : ∃ ec, conCheck m con = ec := ⟨_, rfl⟩
  have HER : Hid (checkL m [s] = er) := her
  have HEC : Hid (conCheck m con = ec) := hec
  have HE : Hid (R = if er = 0 then (if ec = 0 then (filterS (m.cons.getD con.toNat noCon) s, 0) else ([], ec)) else ([], er)) := by rw [← hR, ← her, ← hec]; rfl
  have HFA : Hid (failedA m s = if er = 0 then (failedS s, 0) else (false, er)) := by rw [← her]; rfl
  have HSA : Hid (scopeA m con = if ec = 0 then (scopeC (m.cons.getD con.toNat noCon), 0) else ([], ec)) := by rw [← hec]; rfl
  clear hR her hec hr2
  unfold modV
  go_enter Tryz.func5, Tryz.ntmps5
  go_wp2_with fail
  refine (sfailed_any m s (.slice a1 m.vars.length c1) (.slice a2 m.cons.length c2) _ _ ?_ ?_).mono ?_
  · exact HMA.out _ (below_alloc _ _)
  · exact HVA.out _ (below_alloc _ _)
  rintro e w1 ⟨rfl, hb1⟩
  have d0 : w1.cell? ⟨w.heap.size, 0, none⟩ = some (.slice a1 m.vars.length c1) := (hb1.cell (by simp)).trans (by simp)
  have d1 : w1.cell? ⟨w.heap.size, 1, none⟩ = some (.slice a2 m.cons.length c2) := (hb1.cell (by simp)).trans (by simp)
  have d2 : w1.cell? ⟨w.heap.size, 2, none⟩ = some (.int .i64 m.goal) := (hb1.cell (by simp)).trans (by simp)
  have d3 : w1.cell? ⟨w.heap.size, 3, none⟩ = some (.int .i64 m.var) := (hb1.cell (by simp)).trans (by simp)
  have HB1 : Hid (Below w.heap.size w w1) := (below_alloc _ _).trans (hb1.mono (by simp))
  have hs1 : w.heap.size < w1.heap.size := by have h := hb1.size; simp at h; omega
  clear hb1
  rw [HFA.out]
  by_cases he : er = 0
  · subst he
    rw [if_pos rfl]
    obtain ⟨o1, o2⟩ := (checkL_one m s).1 HER.out
    have HO1 : Hid (checkM m = 0) := o1
    have HO2 : Hid (checkV m.vars s = 0) := o2
    obtain ⟨F, HF⟩ : ∃ F, Hid (failedS s = F) := ⟨_, rfl⟩
    rw [HF.out]
    clear o1 o2
    go_wp2_with fail
    refine (mscope_any m con (.slice a1 m.vars.length c1) (.slice a2 m.cons.length c2) _ ?_).mono ?_
    · exact HMA.out _ (HB1.out.alloc HB1.out.size _)
    rintro e w2 ⟨sv, rfl, hsv, hb2⟩
    have dF : w2.cell? ⟨w1.heap.size, 0, none⟩ = some (.bool F) := (hb2.cell (by simp)).trans (by simp)
    have e1 : w2.cell? ⟨w.heap.size, 1, none⟩ = some (.slice a2 m.cons.length c2) := (hb2.cell (by simp; omega)).trans ((World.cell?_alloc_past _ _ _ hs1).trans d1)
    have HB2 : Hid (Below w.heap.size w w2) := (HB1.out.alloc HB1.out.size _).trans (hb2.mono (by simp; omega))
    have hs2 : w1.heap.size + 1 ≤ w2.heap.size := by simpa using hb2.size
    rw [HSA.out] at hsv ⊢
    clear hb2 d0 d1 d2 d3
    by_cases hc0 : ec = 0
    · subst hc0
      rw [if_pos rfl] at hsv ⊢
      obtain ⟨p1, p2, p3⟩ := conCheck_ok m con HEC.out
      obtain ⟨j, rfl⟩ : ∃ j : Nat, con = (j : Int) := ⟨con.toNat, by omega⟩
      have hjl : j < m.cons.length := by omega
      obtain ⟨c, hcc⟩ : ∃ c, m.cons[j]? = some c := ⟨m.cons[j], by simp [hjl]⟩
      have hgd : m.cons.getD ((j : Int)).toNat noCon = c := by rw [Int.toNat_natCast, List.getD_eq_getElem?_getD, hcc]; rfl
      rw [hgd] at hsv
      have HN : Hid (R = (filterS c s, 0)) := by show R = _; rw [HE.out]; simp only [eq_self, if_true, hgd]
      obtain ⟨b, off, vv, vc, vr, vl, ha, hb, f0, f1, f2, f3, f4, f5, hka⟩ := HC.out j c hcc
      subst ha
      have g0 := (HB2.out.cell (p := ⟨b, off + j * 6, none⟩) hb).trans f0
      have g1 := (HB2.out.cell (p := ⟨b, off + j * 6 + 1, none⟩) hb).trans f1
      have g2 := (HB2.out.cell (p := ⟨b, off + j * 6 + 2, none⟩) hb).trans f2
      have g3 := (HB2.out.cell (p := ⟨b, off + j * 6 + 3, none⟩) hb).trans f3
      have g4 := (HB2.out.cell (p := ⟨b, off + j * 6 + 4, none⟩) hb).trans f4
      have g5 := (HB2.out.cell (p := ⟨b, off + j * 6 + 5, none⟩) hb).trans f5
      have HKA : Hid (KArg w vv vc vr vl c) := hka
      have HSV : Hid (∀ w' : World, Below w2.heap.size w2 w' → IArg w' sv (scopeC c)) := fun w' h => IArg.below h hsv
      have HCE : Hid (conE m.vars.length c = 0) := con_ok m HO1.out j c hcc
      have HSI : Hid ((∀ v ∈ scopeC c, 0 ≤ v ∧ v < (m.vars.length : Int)) ∧ (c.kind = 10 → c.lits ≠ [])) := scope_in m HO1.out j c hcc
      obtain ⟨asv, csv, rfl, _, _⟩ := hsv
      obtain ⟨⟨q1, r1, rfl, _, _⟩, ⟨q2, r2, rfl, _, _⟩, ⟨q3, r3, rfl, _, _⟩, ⟨q4, r4, rfl, _, _⟩⟩ := hka
      obtain ⟨hn6, hr6⟩ := rows_short m s HO1.out HO2.out
      have HR6 : Hid (∀ r ∈ s, r.length ≤ 6) := hr6
      have HLM : Hid (s.length = m.vars.length) := ((checkV_ok _ _).1 HO2.out).1
      obtain ⟨W3, hW3⟩ : ∃ W3 : World, W3 = w2.alloc (.cells #[.slice asv (scopeC c).length csv] 36) := ⟨_, rfl⟩
      have HW3 : Hid (W3 = w2.alloc (.cells #[.slice asv (scopeC c).length csv] 36)) := hW3
      have hB3 : Below w2.heap.size w2 W3 := by rw [hW3]; exact below_alloc _ _
      have hsc3 : W3.cell? ⟨w2.heap.size, 0, none⟩ = some (.slice asv (scopeC c).length csv) := by rw [hW3]; simp
      have hs3 : w2.heap.size < W3.heap.size := by rw [hW3]; simp
      have k1 := (hB3.cell (p := ⟨w.heap.size, 1, none⟩) (by simp only; omega)).trans e1
      have k2 := (hB3.cell (p := ⟨w1.heap.size, 0, none⟩) (by simp only; omega)).trans dF
      have hb2 : b < w2.heap.size := Nat.lt_of_lt_of_le hb HB2.out.size
      have i0 := (hB3.cell (p := ⟨b, off + j * 6, none⟩) hb2).trans g0
      have i1 := (hB3.cell (p := ⟨b, off + j * 6 + 1, none⟩) hb2).trans g1
      have i2 := (hB3.cell (p := ⟨b, off + j * 6 + 2, none⟩) hb2).trans g2
      have i3 := (hB3.cell (p := ⟨b, off + j * 6 + 3, none⟩) hb2).trans g3
      have i4 := (hB3.cell (p := ⟨b, off + j * 6 + 4, none⟩) hb2).trans g4
      have i5 := (hB3.cell (p := ⟨b, off + j * 6 + 5, none⟩) hb2).trans g5
      have HB3 : Hid (Below w.heap.size w W3) := HB2.out.trans (hB3.mono (by omega))
      have l1 : w.heap.size < W3.heap.size := by omega
      have l2 : w1.heap.size < W3.heap.size := by omega
      have l3 : b < W3.heap.size := by omega
      have HSV3 : Hid (∀ w' : World, Below W3.heap.size W3 w' → IArg w' (.slice asv (scopeC c).length csv) (scopeC c)) := fun w' h => HSV.out _ (hB3.trans (h.mono hB3.size))
      have HKA3 : Hid (∀ w' : World, Below W3.heap.size W3 w' → KArg w' (.slice q1 c.vars.length r1) (.slice q2 c.consts.length r2) (.slice q3 c.rows.length r3) (.slice q4 c.lits.length r4) c) := fun w' h => KArg.below (HB3.out.trans (h.mono (by omega))) HKA.out
      have HVA3 : Hid (∀ w' : World, Below W3.heap.size W3 w' → RArg w' (.slice a3 s.length c3) s) := fun w' h => HVA.out _ (HB3.out.trans (h.mono (by omega)))
      have hmk := run_make_row' (P := Tryz.prog) 36 3 (.int .i64 0) 8 Tryz.underInts9 Tryz.infoInt9 rfl .i64 .i64 s.length (by omega) (by omega)
      have hmm := @run_makeMap Tryz.prog
      clear hW3 hcc hgd f0 f1 f2 f3 f4 f5 g0 g1 g2 g3 g4 g5 hr6 hB3 p1 p2 p3 HMA HVA HC HSV HKA HE HFA HSA hb hb2 e1 dF hs1 hs2
      go_wp2_with fail
      rw [← HW3.out]
      clear HW3
      go_cut [11] (fun p wx => ∃ B V M : Nat, p = .pointer (some ⟨B, 0, none⟩) ∧ (W3.heap.size ≤ B ∧ W3.heap.size ≤ V ∧ W3.heap.size ≤ M ∧ B ≠ V ∧ B ≠ M ∧ V ≠ M) ∧ wx.heap[B]? = some (trialObj c (.slice q1 c.vars.length r1) (.slice q2 c.consts.length r2) (.slice q3 c.rows.length r3) (.slice q4 c.lits.length r4) (.slice asv (scopeC c).length csv) (.slice a3 s.length c3) V s.length M) ∧
        wx.heap[V]? = some (.cells (madeCells #[.int .i64 0] s.length) 3) ∧ wx.heap[M]? = some (.map #[] 0) ∧ Below W3.heap.size W3 wx)
      case first =>
        go_region_held3 (fun w' => Below W3.heap.size W3 w' ∧ w'.cell? ⟨w.heap.size, 1, none⟩ = some (.slice (some ⟨b, off, none⟩) m.cons.length c2) ∧ w'.cell? ⟨w2.heap.size, 0, none⟩ = some (.slice asv (scopeC c).length csv) ∧
            w'.cell? ⟨b, off + j * 6, none⟩ = some (.int .i64 c.kind) ∧ w'.cell? ⟨b, off + j * 6 + 1, none⟩ = some (.slice q1 c.vars.length r1) ∧ w'.cell? ⟨b, off + j * 6 + 2, none⟩ = some (.slice q2 c.consts.length r2) ∧ w'.cell? ⟨b, off + j * 6 + 3, none⟩ = some (.int .i64 c.n) ∧ w'.cell? ⟨b, off + j * 6 + 4, none⟩ = some (.slice q3 c.rows.length r3) ∧ w'.cell? ⟨b, off + j * 6 + 5, none⟩ = some (.slice q4 c.lits.length r4))
          ((refine (fun (hB : Below W3.heap.size W3 _) => ⟨hB, (hB.cell (p := ⟨w.heap.size, 1, none⟩) l1).trans k1, (hB.cell (p := ⟨w2.heap.size, 0, none⟩) hs3).trans hsc3, (hB.cell (p := ⟨b, off + j * 6, none⟩) l3).trans i0, (hB.cell (p := ⟨b, off + j * 6 + 1, none⟩) l3).trans i1, (hB.cell (p := ⟨b, off + j * 6 + 2, none⟩) l3).trans i2, (hB.cell (p := ⟨b, off + j * 6 + 3, none⟩) l3).trans i3, (hB.cell (p := ⟨b, off + j * 6 + 4, none⟩) l3).trans i4, (hB.cell (p := ⟨b, off + j * 6 + 5, none⟩) l3).trans i5⟩ : Below W3.heap.size W3 _ → _) ?_; first | exact (Below.refl _ _).drew | exact (show Below W3.heap.size W3 _ ∧ _ ∧ _ ∧ _ ∧ _ ∧ _ ∧ _ ∧ _ ∧ _ by assumption).1.alloc ((show Below W3.heap.size W3 _ ∧ _ ∧ _ ∧ _ ∧ _ ∧ _ ∧ _ ∧ _ ∧ _ by assumption).1.size) _ | exact bel3 _ _ _ _ | exact (bel3 _ _ _ _).drew))
          (fail)
        all_goals (go_wp2_with fail; go_meet)
        all_goals first
          | exact ⟨_, W3.heap.size, W3.heap.size + 1, rfl, by omega, (bl3 _ _ _ _).2.2, (bl3 _ _ _ _).1, (bl3 _ _ _ _).2.1, (bel3 _ _ _ _).drew⟩
          | exact ⟨_, W3.heap.size, W3.heap.size + 1 + 1, rfl, by omega, (bl3 _ _ _ _).2.1, (bl3 _ _ _ _).1, (bl3 _ _ _ _).2.2, (bel3 _ _ _ _).drew⟩
          | exact ⟨_, W3.heap.size + 1, W3.heap.size, rfl, by omega, (bl3 _ _ _ _).2.2, (bl3 _ _ _ _).2.1, (bl3 _ _ _ _).1, (bel3 _ _ _ _).drew⟩
          | exact ⟨_, W3.heap.size + 1 + 1, W3.heap.size, rfl, by omega, (bl3 _ _ _ _).2.1, (bl3 _ _ _ _).2.2, (bl3 _ _ _ _).1, (bel3 _ _ _ _).drew⟩
          | exact ⟨_, W3.heap.size + 1, W3.heap.size + 1 + 1, rfl, by omega, (bl3 _ _ _ _).1, (bl3 _ _ _ _).2.1, (bl3 _ _ _ _).2.2, (bel3 _ _ _ _).drew⟩
          | exact ⟨_, W3.heap.size + 1 + 1, W3.heap.size + 1, rfl, by omega, (bl3 _ _ _ _).1, (bl3 _ _ _ _).2.2, (bl3 _ _ _ _).2.1, (bel3 _ _ _ _).drew⟩
      case rest =>
        obtain ⟨B, V, M, rfl, hne, hBh, hVh, hMh, hBx⟩ := hcut
        have hzl : (zerosOf s.length).length = s.length := by simp [zerosOf]
        have hT : TrialS W3.heap.size B V M c (.slice q1 c.vars.length r1) (.slice q2 c.consts.length r2) (.slice q3 c.rows.length r3) (.slice q4 c.lits.length r4) (.slice asv (scopeC c).length csv) (.slice a3 s.length c3) (scopeC c) s (zerosOf s.length) [] wc := by
          refine ⟨hne, by rw [hzl]; exact hBh, ⟨W3, Nat.le_refl _, ⟨HKA3.out _ (Below.refl _ _), HSV3.out _ (Below.refl _ _), HVA3.out _ (Below.refl _ _)⟩, hBx⟩, ?_, owns_none _ _ hMh⟩
          rw [hzl]
          refine ⟨by simp [zerosOf], Or.inr ⟨V, s.length, _, rfl, hne.2.1, hVh, Nat.le_refl _, by unfold maxLen; omega, ?_, ?_⟩⟩
          · have h := congrArg List.length (toList_madeCells_one (.int .i64 0) s.length)
            simp at h
            simpa using h
          · rw [toList_madeCells_one]
            simp [zerosOf]
        have HT : Hid (TrialS W3.heap.size B V M c (.slice q1 c.vars.length r1) (.slice q2 c.consts.length r2) (.slice q3 c.rows.length r3) (.slice q4 c.lits.length r4) (.slice asv (scopeC c).length csv) (.slice a3 s.length c3) (scopeC c) s (zerosOf s.length) [] wc) := hT
        have HBX : Hid (Below W3.heap.size W3 wc) := hBx
        have n2 := (hBx.cell (p := ⟨w1.heap.size, 0, none⟩) l2).trans k2
        have HNE : Hid (W3.heap.size ≤ wc.heap.size) := hBx.size
        have HSC : Hid (∀ v ∈ scopeC c, 0 ≤ v ∧ v < (s.length : Int)) := by rw [HLM.out]; exact HSI.out.1
        have HRB : Hid (∀ r ∈ s, ∀ x ∈ r, -50 ≤ x ∧ x ≤ 50) := row_bounds m s HO1.out HO2.out
        have HCS : Hid (conE s.length c = 0) := by rw [HLM.out]; exact HCE.out
        have HSL : Hid ((scopeC c).length ≤ 8) := by
          obtain ⟨hn4, hl4, _, _⟩ := many_not c (con_facts _ _ HCE.out).2.1
          have h1 := compI_len (sortI (scopeL c))
          rw [sortI_len] at h1
          show (compI (sortI (scopeL c))).length ≤ 8
          have h2 : (scopeL c).length = c.vars.length + c.lits.length := by simp [scopeL]
          omega
        -- the end, whatever was tried
        have HEND : Hid (∀ (vals : List Int) (l : List (Int × Int)) (w5 : World), TrialS W3.heap.size B V M c (.slice q1 c.vars.length r1) (.slice q2 c.consts.length r2) (.slice q3 c.rows.length r3) (.slice q4 c.lits.length r4) (.slice asv (scopeC c).length csv) (.slice a3 s.length c3) (scopeC c) s vals l w5 →
            vals.length = s.length → (∀ x ∈ vals, -50 ≤ x ∧ x ≤ 50) → (∀ q ∈ l, okPair q) → (failedS s = false → l = metAll c s ∧ ((scopeC c).length = 0 → vals = zerosOf s.length)) → Below W3.heap.size W3 w5 →
            Calls Tryz.prog 21 #[.slice a3 s.length c3, .func (.func 18) #[] #[.pointer (some ⟨w1.heap.size, 0, none⟩), .pointer (some ⟨w2.heap.size, 0, none⟩), .pointer (some ⟨B, 0, none⟩)]] w5 fun e w' => ∃ x, e = .returned x ∧ RArg w' x (filterS c s) ∧ Below w.heap.size w w') := by
          intro vals l w5 hT5 hvl hvb hlo hst hB5
          refine (sift_any 18 #[.pointer (some ⟨w1.heap.size, 0, none⟩), .pointer (some ⟨w2.heap.size, 0, none⟩), .pointer (some ⟨B, 0, none⟩)] s (staysB c s) _ w5 (HVA3.out _ hB5) ⟨enters_stays, ?_⟩ hn6 HR6.out).mono ?_
          · intro k r z w' hk hz hb'
            have hB' : Below W3.heap.size W3 w' := hB5.trans (hb'.mono hB5.size)
            have h := stays_any W3.heap.size B V M c _ _ _ _ _ _ (scopeC c) s vals l F w1.heap.size w2.heap.size k z w' (hT5.below hb') ((hB'.cell (p := ⟨w1.heap.size, 0, none⟩) l2).trans k2) ((hB'.cell (p := ⟨w2.heap.size, 0, none⟩) hs3).trans hsc3) (by rw [hvl]; exact HCS.out) hvb hlo
              (by have := (List.getElem?_eq_some_iff.1 hk).1; omega) (HRB.out r (List.mem_of_getElem? hk) z hz)
            rw [← HF.out, staysT_eq c s vals l hst] at h
            exact h
          · rintro e w' ⟨x, rfl, hx, hb⟩
            exact ⟨x, rfl, hx, HB3.out.trans ((hB5.trans (hb.mono hB5.size)).mono (by omega))⟩
        clear hBh hVh hMh hBx hT hmk hmm hzl k1 i0 i1 i2 i3 i4 i5 hsc3
        cases F
        · go_wp2_with fail
          have HFR := from_any W3.heap.size B V M c (.slice q1 c.vars.length r1) (.slice q2 c.consts.length r2) (.slice q3 c.rows.length r3) (.slice q4 c.lits.length r4) (.slice asv (scopeC c).length csv) (.slice a3 s.length c3) (scopeC c) s HSC.out HCS.out hn6 (fun r hr => ⟨HR6.out r hr, HRB.out r hr⟩) HSL.out (scopeC c) 0 (zerosOf s.length) [] wc rfl (Nat.zero_le _) (by simp [zerosOf]) (zeros_bound _) (by
            have h1 := HSL.out
            have h2 : 6 ^ (scopeC c).length ≤ 6 ^ 8 := Nat.pow_le_pow_right (by omega) h1
            have h3 : (scopeC c).length * 6 ^ (scopeC c).length ≤ 8 * 6 ^ 8 := Nat.mul_le_mul h1 h2
            simp only [List.length_nil, Nat.zero_add]
            omega) HT.out
          refine (show Calls Tryz.prog 17 #[.pointer (some ⟨B, 0, none⟩), .int .i64 0] wc _ from HFR).mono ?_
          rintro e w5 ⟨rfl, vals', hT5, hvl, hvb, hag, hbN⟩
          have HB5 : Hid (Below W3.heap.size W3 w5) := HBX.out.trans hbN
          rw [List.nil_append] at hT5
          have HS := HEND.out vals' (metAll c s) w5 hT5 hvl hvb (met_ok c s HRB.out hn6 HSC.out) (fun _ => ⟨rfl, fun h0 => by
            have h1 : scopeC c = [] := List.eq_nil_of_length_eq_zero h0
            rw [h1] at hag
            exact (List.ext_getElem? fun i => hag.2 i (fun v hv => by cases hv)).symm⟩) HB5.out
          have HSH : Hid (Calls Tryz.prog 21 #[.slice a3 s.length c3, .func (.func 18) #[] #[.pointer (some ⟨w1.heap.size, 0, none⟩), .pointer (some ⟨w2.heap.size, 0, none⟩), .pointer (some ⟨B, 0, none⟩)]] w5 fun e w' => ∃ x, e = .returned x ∧ RArg w' x (filterS c s) ∧ Below w.heap.size w w') := HS
          clear HS hT5 hvl hvb hag hbN HFR
          go_wp2_with fail
          refine HSH.out.mono ?_
          rintro e w6 ⟨x, rfl, hx, hb6⟩
          have HX : Hid (RArg w6 x (filterS c s)) := hx
          obtain ⟨ax, cx, rfl, _, _⟩ := hx
          go_wp2
          go_ret2
          rw [HN.out]
          exact ⟨_, rfl, HX.out, hb6⟩
        · have HSH : Hid (Calls Tryz.prog 21 #[.slice a3 s.length c3, .func (.func 18) #[] #[.pointer (some ⟨w1.heap.size, 0, none⟩), .pointer (some ⟨w2.heap.size, 0, none⟩), .pointer (some ⟨B, 0, none⟩)]] wc fun e w' => ∃ x, e = .returned x ∧ RArg w' x (filterS c s) ∧ Below w.heap.size w w') :=
            HEND.out (zerosOf s.length) [] wc HT.out (by simp [zerosOf]) (zeros_bound _) (fun q hq => by cases hq) (fun h => by rw [HF.out] at h; cases h) HBX.out
          go_wp2_with fail
          refine HSH.out.mono ?_
          rintro e w6 ⟨x, rfl, hx, hb6⟩
          have HX : Hid (RArg w6 x (filterS c s)) := hx
          obtain ⟨ax, cx, rfl, _, _⟩ := hx
          go_wp2
          go_ret2
          rw [HN.out]
          exact ⟨_, rfl, HX.out, hb6⟩
    · have HN : Hid (R = ([], ec)) := by show R = _; rw [HE.out]; simp only [eq_self, if_true, hc0, if_false]
      have he2 : (ec != 0) = true := by simpa using hc0
      rw [if_neg hc0] at hsv ⊢
      obtain ⟨asv, csv, rfl, _, _⟩ := hsv
      clear hc0
      go_wp2
      go_ret2
      rw [HN.out]
      exact ⟨_, rfl, ⟨_, _, rfl, ⟨Nat.le_refl _, Nat.zero_le _⟩, fun i r h => by simp at h⟩, HB2.out.alloc HB2.out.size _⟩
  · have HN : Hid (R = ([], er)) := by rw [HE.out, if_neg he]; rfl
    have he2 : (er != 0) = true := by simpa using he
    rw [if_neg he]
    clear he
    go_wp2
    go_ret2
    rw [HN.out]
    exact ⟨_, rfl, ⟨_, _, rfl, ⟨Nat.le_refl _, Nat.zero_le _⟩, fun i r h => by simp at h⟩, HB1.out.alloc HB1.out.size _⟩
end Go.Proofs.YtggkbhafbhhhhacGreat
/-
  WALKS: package store: Begin.
-/
namespace Go.Proofs.YtggkbhafbhhhhacGreat
open Go.RowKit

def spanN (lo : Int) (j : Nat) : List Int := (List.range j).map fun (k : Nat) => lo + (k : Int)
theorem spanN_next (lo : Int) (j : Nat) : spanN lo (j + 1) = spanN lo j ++ [lo + j] := by simp [spanN, List.range_succ]
theorem spanN_len (lo : Int) (j : Nat) : (spanN lo j).length = j := by simp [spanN]
theorem spanR_eq (lo hi : Int) : spanR lo hi = spanN lo (hi + 1 - lo).toNat := rfl
theorem checkL_nil (m : Mod) : checkL m [] = checkM m := by
  unfold checkL; simp only [List.map_nil, firstE]
  by_cases h : checkM m = 0
  · rw [if_pos h, h]
  · rw [if_neg h]
def beginA (m : Mod) : Sto × Int := if checkM m = 0 then (beginS m.vars, 0) else ([], checkM m)

set_option maxHeartbeats 1600000 in
set_option maxRecDepth 100000 in
theorem sbegin_any (m : Mod) (vs cs : Value) (w : World) (hm : MArg w vs cs m) :
    Calls Tryz.prog 36 #[modV vs cs m] w fun e w' => ∃ x, e = .returned (.tuple #[x, .int .i64 (beginA m).2]) ∧ RArg w' x (beginA m).1 ∧ Below w.heap.size w w' := by
  have HMA : Hid (∀ w' : World, Below w.heap.size w w' → MArg w' vs cs m) := fun w' h => MArg.below h hm
  obtain ⟨⟨a1, c1, rfl, hl1, hr1⟩, ⟨a2, c2, rfl, _, _⟩⟩ := hm
  have HV1 : Hid (∀ (i : Nat) (t : MVar), m.vars[i]? = some t → t.name.size ≤ maxLen ∧ ∃ b off, a1 = some ⟨b, off, none⟩ ∧ b < w.heap.size ∧
    w.cell? ⟨b, off + i * 3, none⟩ = some (.string t.name) ∧ w.cell? ⟨b, off + i * 3 + 1, none⟩ = some (.int .i64 t.lo) ∧ w.cell? ⟨b, off + i * 3 + 2, none⟩ = some (.int .i64 t.hi)) := hr1
  unfold maxLen at hl1
  obtain ⟨hl11, hl1⟩ := hl1
  obtain ⟨R, hR⟩ : ∃ R, beginA m = R := ⟨_, rfl⟩
  rw [hR]
  obtain ⟨er, her⟩ : ∃ er, checkM m = er := ⟨_, rfl⟩
  have HER : Hid (checkL m [] = er) := by rw [checkL_nil]; exact her
  have HE : Hid (R = if er = 0 then (beginS m.vars, 0) else ([], er)) := by rw [← hR, ← her]; rfl
  have HOK : Hid (er = 0 → checkM m = 0) := by intro h0; rw [her]; exact h0
  clear hR her hr1
  unfold modV
  go_enter Tryz.func36, Tryz.ntmps36
  go_wp2_with fail
  refine (check_any2 m [] (.slice a1 m.vars.length c1) (.slice a2 m.cons.length c2) _ _ ?_ ?_).mono ?_
  · exact HMA.out _ (below_alloc _ _)
  · exact ⟨_, _, rfl, ⟨Nat.le_refl _, Nat.zero_le _⟩, fun i r h => by simp at h⟩
  rintro e w1 ⟨rfl, hb1⟩
  rw [HER.out]
  have HB1 : Hid (Below w.heap.size w w1) := (below_alloc _ _).trans (hb1.mono (by simp))
  have d0 : w1.cell? ⟨w.heap.size, 0, none⟩ = some (.slice a1 m.vars.length c1) := (hb1.cell (by simp)).trans (by simp)
  have hs1 : w.heap.size + 1 ≤ w1.heap.size := by simpa using hb1.size
  clear hb1
  by_cases he : er = 0
  · subst he
    have HOK2 : Hid (checkM m = 0) := HOK.out rfl
    have hn : m.vars.length ≤ 6 := (checkM_vars m HOK2.out).2.1
    have HE2 : Hid (R = (beginS m.vars, 0)) := by rw [HE.out, if_pos rfl]; rfl
    obtain ⟨wm, hrun, hrows, hbm⟩ := make_store m.vars.length hn w1
    have HROWS : Hid (∀ M, SRows wm w1.heap.size w1.heap.size m.vars.length (List.replicate m.vars.length (.slice none 0 0)) M 0) := hrows
    have HBM : Hid (Below w.heap.size w wm) := HB1.out.trans (hbm.mono (by omega))
    have d1 : wm.cell? ⟨w.heap.size, 0, none⟩ = some (.slice a1 m.vars.length c1) := (hbm.cell (p := ⟨w.heap.size, 0, none⟩) (by simp only; omega)).trans d0
    obtain ⟨B, hB⟩ : ∃ B, B = w1.heap.size := ⟨_, rfl⟩
    rw [← hB] at hrun HROWS
    have hBw : w.heap.size ≤ B := by omega
    obtain ⟨i0, hi, hz0, hz1, hz2⟩ := info_parts Tryz.infoInt
    clear hrows hbm hB hs1
    go_wp2_with fail
    clear hrun d0 d1
    go_loopw [21] (fun i wr => ∃ (k : Nat) (cells : List Value), k ≤ m.vars.length ∧ i = .int .i64 k ∧ SRows wr B B m.vars.length cells (beginS m.vars) k ∧ Below w.heap.size w wr) (fun i _ => m.vars.length - (intOf i).toNat)
    case atStart => exact ⟨0, _, by omega, rfl, HROWS.out _, HBM.out⟩
    case round =>
      obtain ⟨k, cells, hk, rfl, hrow, hbw⟩ := hrel
      have HROW : Hid (SRows wr B B m.vars.length cells (beginS m.vars) k) := hrow
      have HBW : Hid (Below w.heap.size w wr) := hbw
      clear hrow hbw
      by_cases hlt : k < m.vars.length
      · obtain ⟨t, ht⟩ : ∃ t, m.vars[k]? = some t := ⟨m.vars[k], by simp [hlt]⟩
        have HM : Hid ((beginS m.vars)[k]? = some (spanN t.lo (t.hi + 1 - t.lo).toNat)) := by show _ = _; unfold beginS; rw [List.getElem?_map, ht]; rfl
        obtain ⟨hlo, hhi, hlh, h6⟩ := var_ok m HOK2.out k t ht
        obtain ⟨_, b, off, hax, hb, e0, e1, e2⟩ := HV1.out k t ht
        subst hax
        have f0 := (HBW.out.cell (p := ⟨b, off + k * 3, none⟩) hb).trans e0
        have f1 := (HBW.out.cell (p := ⟨b, off + k * 3 + 1, none⟩) hb).trans e1
        have f2 := (HBW.out.cell (p := ⟨b, off + k * 3 + 2, none⟩) hb).trans e2
        have hszb : w.heap.size ≤ wr.heap.size := HBW.out.size
        have HBL : Hid (B < wr.heap.size) := (HROW.out.1.lt B rfl).2
        clear ht e0 e1 e2 hb
        obtain ⟨wx, hwx⟩ : ∃ wx : World, wx = wr.alloc (.cells #[.string t.name, .int .i64 t.lo, .int .i64 t.hi] 90) := ⟨_, rfl⟩
        have HKX : Hid (SRowsIn wx B B m.vars.length cells (beginS m.vars) k wx.heap.size []) := by rw [hwx]; exact (HROW.out.kept (below_alloc _ _)).into hlt
        have HBX : Hid (Below w.heap.size w wx) := by rw [hwx]; exact HBW.out.alloc hszb _
        have HSX : Hid (wx.heap.size = wr.heap.size + 1) := by show _ = _; rw [hwx]; simp
        have HCX : Hid (wx.cell? ⟨wr.heap.size, 2, none⟩ = some (.int .i64 t.hi)) := by rw [hwx]; show _ = _; simp
        have HWX : Hid (wx = wr.alloc (.cells #[.string t.name, .int .i64 t.lo, .int .i64 t.hi] 90)) := hwx
        clear hwx
        obtain ⟨bv, HBV⟩ : ∃ bv, Hid (bv = wr.heap.size) := ⟨_, rfl⟩
        obtain ⟨wo, rfl⟩ : ∃ wo : World, wo = wr := ⟨_, rfl⟩
        go_wp2_with fail
        rw [← HWX.out, ← HBV.out]
        rw [← HBV.out] at HCX HSX HBL
        clear f0 f1 f2 HWX HBV HROW HBW hszb
        obtain ⟨K, hK⟩ : ∃ K, K = wx.heap.size := ⟨_, rfl⟩
        rw [← hK] at HKX
        have hbvK : bv < K := by have := HSX.out; omega
        clear hK
        go_loopw [8] (fun i wr => ∃ (j : Nat) (cells : List Value), t.lo + (j : Int) ≤ t.hi + 1 ∧ i = .int .i64 (t.lo + (j : Int)) ∧ SRowsIn wr B B m.vars.length cells (beginS m.vars) k K (spanN t.lo j) ∧ Below w.heap.size w wr ∧ wr.cell? ⟨bv, 2, none⟩ = some (.int .i64 t.hi)) (fun i _ => (t.hi + 1 - intOf i).toNat)
        case atStart => exact ⟨0, cells, by omega, by simp, HKX.out, HBX.out, HCX.out⟩
        case round =>
          obtain ⟨j, cells, hj, rfl, hin, hbw, hcv⟩ := hrel
          have HIN2 : Hid (SRowsIn wr B B m.vars.length cells (beginS m.vars) k K (spanN t.lo j)) := hin
          have HBW2 : Hid (Below w.heap.size w wr) := hbw
          clear hin hbw
          by_cases hlj : t.lo + (j : Int) ≤ t.hi
          · obtain ⟨z, hz⟩ : ∃ z, z = t.lo + (j : Int) := ⟨_, rfl⟩
            have HZ : Hid (z = t.lo + (j : Int)) := hz
            have hz1' : -50 ≤ z := by omega
            have hz2' : z ≤ t.hi := by omega
            have hz3' : z ≤ 50 := by omega
            have HN : Hid (spanN t.lo (j + 1) = spanN t.lo j ++ [z]) := by rw [hz]; exact spanN_next t.lo j
            obtain ⟨acc, hacc⟩ : ∃ acc, spanN t.lo j = acc := ⟨_, rfl⟩
            have hal : acc.length ≤ 6 := by rw [← hacc, spanN_len]; omega
            rw [hacc] at HN HIN2
            rw [← hz]
            have HJ : Hid (t.lo + ((j + 1 : Nat) : Int) ≤ t.hi + 1) := by show _ ≤ _; omega
            clear hacc hz hlj hj
            obtain ⟨htop, _, ⟨x, hx, hox⟩, _, hBK, hKw, _⟩ := HIN2.out
            obtain ⟨ax, cx, rfl⟩ := own_form hox
            have HX : Hid (cells[k]? = some (.slice ax acc.length cx)) := hx
            have hcx : wr.cell? ⟨B, k, none⟩ = some (.slice ax acc.length cx) := by rw [htop.cellAt k (by omega)]; exact hx
            have hlB : B < wr.heap.size := by omega
            clear hx
            go_wp2_with (at_builtin; refine wpList_append_own _ rfl _ _ 36 rfl K 3 i0 (.int .i64 0) 1 8 Tryz.underlying36 hi hz0 hz1 hz2 rfl (by decide) _ _ _ rfl (hox.alloc _) ⟨wr.heap.size, 0, none⟩ 1 1 [.int .i64 z] rfl rfl ?c1 ?c2 ?c3 ?c4 ?c5 ?_)
            case c1 => exact one_laid wr z
            case c2 => intro u hu; rcases List.mem_singleton.1 hu with rfl; rfl
            case c3 => unfold maxLen; omega
            case c4 => omega
            case c5 => simp; omega
            intro v3 w3 hown3 hgrow _
            have hown4 : w3.ownsRow K 3 1 v3 (acc ++ [z]).length ((acc ++ [z]).map (Value.int .i64)) := by
              rw [List.length_append, List.map_append]; exact hown3
            have HPUSH : Hid (SRowsIn (w3.setCell ⟨B, k, none⟩ v3) B B m.vars.length (cells.set k v3) (beginS m.vars) k K (acc ++ [z])) := (HIN2.out.kept (below_alloc _ _)).push HX.out hown4 hgrow
            have HB3 : Hid (Below w.heap.size w (w3.setCell ⟨B, k, none⟩ v3)) :=
              ((HBW2.out.alloc HBW2.out.size _).grown hgrow (by have := HBW2.out.size; simp; omega) (fun g h => by have := (hox.lt g h).1; omega)).setCell (by simp only; omega) _
            have ht3 : w3.ownsRow B 36 1 (.slice (some ⟨B, 0, none⟩) m.vars.length m.vars.length) m.vars.length cells := (htop.alloc _).kept hgrow (Or.inr (fun h => by have := (hox.lt B h.symm).1; omega))
            have hcB : w3.cell? ⟨B, k, none⟩ = some (.slice ax acc.length cx) := by rw [ht3.cellAt k (by omega)]; exact HX.out
            have hfB : w3.frozen? ⟨B, k, none⟩ = false := ht3.frozenAt k
            have hc3 : w3.cell? ⟨bv, 2, none⟩ = some (.int .i64 t.hi) := hgrow.cell ((World.cell?_alloc_past _ _ _ (by omega)).trans hcv) (fun h => by have := (hox.lt bv h.symm).1; omega)
            obtain ⟨av, cv, rfl⟩ := own_form hown4
            rw [show (acc ++ [z]).length = acc.length + 1 by simp] at HPUSH HB3
            clear hown3 hgrow hown4 hox hcx htop ht3
            go_wp2
            go_roundw
            case rel => exact ⟨j + 1, _, HJ.out, by rw [HZ.out]; go_num, by rw [HN.out]; exact HPUSH.out, HB3.out, (World.cell?_of_block (Below.heap_setCell _ _ _ _ (by have := HBL.out; simp only; omega))).trans hc3⟩
            case measure => simp [intOf]; omega
          · have HN : Hid (spanN t.lo j = spanN t.lo (t.hi + 1 - t.lo).toNat) := by show _ = _; rw [show j = (t.hi + 1 - t.lo).toNat by omega]
            have HD : Hid (SRows wr B B m.vars.length cells (beginS m.vars) (k + 1)) := HIN2.out.done (by rw [HN.out]; exact HM.out)
            go_wp2
            go_roundw
            case rel => exact ⟨k + 1, cells, by omega, by go_num, HD.out, HBW2.out⟩
            case measure => simp [intOf]; omega
      · have hks : k = m.vars.length := by omega
        have HF : Hid (RArg wr (.slice (some ⟨B, 0, none⟩) m.vars.length m.vars.length) (beginS m.vars)) := by
          have h := HROW.out
          rw [hks] at h
          exact h.rarg (by simp [beginS])
        clear hks
        go_wp2
        go_ret2
        rw [HE2.out]
        exact ⟨_, rfl, HF.out, HBW.out⟩
  · have HN : Hid (R = ([], er)) := by rw [HE.out, if_neg he]; rfl
    have he2 : (er != 0) = true := by simpa using he
    clear he
    go_wp2
    go_ret2
    rw [HN.out]
    exact ⟨_, rfl, ⟨_, _, rfl, ⟨Nat.le_refl _, Nat.zero_le _⟩, fun i r h => by simp at h⟩, HB1.out⟩
end Go.Proofs.YtggkbhafbhhhhacGreat
/-
  WALK: the reference's SameInts.
-/
namespace Go.Proofs.YtggkbhafbhhhhacGreat
open Go.RowKit

theorem take_same {α : Type} (a b : List α) (m : Nat) (x : α) (h : a.take m = b.take m) (ha : a[m]? = some x) (hb : b[m]? = some x) : a.take (m + 1) = b.take (m + 1) := by
  rw [List.take_add_one, List.take_add_one, h, ha, hb]
theorem same_end {α : Type} (a b : List α) (m : Nat) (h : a.take m = b.take m) (ha : ¬ m < a.length) (hl : a.length = b.length) : a = b := by
  rwa [List.take_of_length_le (by omega), List.take_of_length_le (by omega)] at h
theorem not_same {α : Type} (a b : List α) (m : Nat) (x y : α) (ha : a[m]? = some x) (hb : b[m]? = some y) (h : x ≠ y) : a ≠ b := by
  intro e; subst e; rw [ha] at hb; cases hb; exact h rfl

set_option maxHeartbeats 800000 in
set_option maxRecDepth 100000 in
theorem sameints_any (l k : List Int) (v u : Value) (w : World) (hv : IArg w v l) (hu : IArg w u k) :
    Calls Tryz.prog 35 #[v, u] w fun e w' => e = .returned (.bool (decide (l = k))) ∧ ∃ n, w' = w.drewN n := by
  obtain ⟨a, c, rfl, hm, hr⟩ := hv
  obtain ⟨a', c', rfl, hm', hr'⟩ := hu
  have HV : Hid (∀ (i : Nat) (z : Int), l[i]? = some z → ∃ b off, a = some ⟨b, off, none⟩ ∧ b < w.heap.size ∧ w.cell? ⟨b, off + i, none⟩ = some (.int .i64 z)) := hr
  have HV' : Hid (∀ (i : Nat) (z : Int), k[i]? = some z → ∃ b off, a' = some ⟨b, off, none⟩ ∧ b < w.heap.size ∧ w.cell? ⟨b, off + i, none⟩ = some (.int .i64 z)) := hr'
  obtain ⟨R, hR⟩ : ∃ R, decide (l = k) = R := ⟨_, rfl⟩
  rw [hR]
  have HR : Hid (decide (l = k) = R) := hR
  unfold maxLen at hm hm'
  obtain ⟨hm1, hm⟩ := hm
  obtain ⟨hm1', hm'⟩ := hm'
  clear hr hr' hR
  by_cases hl : l.length = k.length
  · have HL : Hid (l.length = k.length) := hl
    have g0 : ((l.length : Int) != (k.length : Int)) = false := by simp [hl]
    clear hl
    go_enter Tryz.func35, Tryz.ntmps35
    go_wp2_with fail
    go_loopw [5] (fun i wr => ∃ m : Nat, m ≤ l.length ∧ i = .int .i64 m ∧ Hid (l.take m = k.take m) ∧ ∃ n, wr = w.drewN n) (fun i _ => l.length - (intOf i).toNat)
    case atStart => exact ⟨0, by omega, rfl, rfl, 0, rfl⟩
    case round =>
      obtain ⟨m, hml, rfl, hall, nq, rfl⟩ := hrel
      by_cases hlt : m < l.length
      · have hlt' : m < k.length := by rw [← HL.out]; exact hlt
        obtain ⟨x, hx⟩ : ∃ x, l[m]? = some x := ⟨l[m], by simp [hlt]⟩
        obtain ⟨y, hy⟩ : ∃ y, k[m]? = some y := ⟨k[m], by simp [hlt']⟩
        obtain ⟨b, off, ha, hb, hc⟩ := HV.out m x hx
        obtain ⟨b', off', ha', hb', hd⟩ := HV'.out m y hy
        have HX : Hid (l[m]? = some x) := hx
        have HY : Hid (k[m]? = some y) := hy
        subst ha; subst ha'
        clear hx hy
        by_cases hq : x = y
        · subst hq
          have HN : Hid (l.take (m + 1) = k.take (m + 1)) := take_same l k m x hall.out HX.out HY.out
          go_wp2
          go_quiet (fail)
          go_wp2
          go_roundw
          case rel => exact ⟨m + 1, by omega, by go_num, HN, _, rfl⟩
          case measure => simp [intOf]; omega
        · have HN : Hid (R = false) := by rw [← HR.out]; exact decide_eq_false (not_same l k m x y HX.out HY.out hq)
          have hq2 : (x != y) = true := by simpa using hq
          clear hq
          go_wp2
          go_quiet (fail)
          go_wp2
          go_ret
          exact ⟨ret_bool HN.out.symm, _, drewN_drewN _ _ _⟩
      · have HN : Hid (R = true) := by rw [← HR.out]; exact decide_eq_true (same_end l k m hall.out hlt HL.out)
        go_wp2
        go_ret
        exact ⟨ret_bool HN.out.symm, _, rfl⟩
  · have HN : Hid (R = false) := by rw [← HR.out]; exact decide_eq_false (fun h => hl (by rw [h]))
    have g0 : ((l.length : Int) != (k.length : Int)) = true := by simp; omega
    clear hl
    go_enter Tryz.func35, Tryz.ntmps35
    go_wp2
    go_ret
    exact ⟨ret_bool HN.out.symm, 0, rfl⟩

end Go.Proofs.YtggkbhafbhhhhacGreat
/-
  WALK: the reference's SameStore.
-/
namespace Go.Proofs.YtggkbhafbhhhhacGreat
open Go.RowKit

set_option maxHeartbeats 800000 in
set_option maxRecDepth 100000 in
theorem samestore_any (s t : Sto) (v u : Value) (w : World) (hv : RArg w v s) (hu : RArg w u t) :
    Calls Tryz.prog 32 #[v, u] w fun e w' => e = .returned (.bool (decide (s = t))) ∧ ∃ n, w' = w.drewN n := by
  obtain ⟨a, c, rfl, hm, hr⟩ := hv
  obtain ⟨a', c', rfl, hm', hr'⟩ := hu
  have HV : Hid (∀ (i : Nat) (r : List Int), s[i]? = some r → ∃ b off x, a = some ⟨b, off, none⟩ ∧ b < w.heap.size ∧ w.cell? ⟨b, off + i, none⟩ = some x ∧ IArg w x r) := hr
  have HV' : Hid (∀ (i : Nat) (r : List Int), t[i]? = some r → ∃ b off x, a' = some ⟨b, off, none⟩ ∧ b < w.heap.size ∧ w.cell? ⟨b, off + i, none⟩ = some x ∧ IArg w x r) := hr'
  obtain ⟨R, hR⟩ : ∃ R, decide (s = t) = R := ⟨_, rfl⟩
  rw [hR]
  have HR : Hid (decide (s = t) = R) := hR
  unfold maxLen at hm hm'
  obtain ⟨hm1, hm⟩ := hm
  obtain ⟨hm1', hm'⟩ := hm'
  clear hr hr' hR
  by_cases hl : s.length = t.length
  · have HL : Hid (s.length = t.length) := hl
    have g0 : ((s.length : Int) != (t.length : Int)) = false := by simp [hl]
    clear hl
    go_enter Tryz.func32, Tryz.ntmps32
    go_wp2_with fail
    go_loopw [5] (fun i wr => ∃ m : Nat, m ≤ s.length ∧ i = .int .i64 m ∧ Hid (s.take m = t.take m) ∧ ∃ n, wr = w.drewN n) (fun i _ => s.length - (intOf i).toNat)
    case atStart => exact ⟨0, by omega, rfl, rfl, 0, rfl⟩
    case round =>
      obtain ⟨m, hml, rfl, hall, nq, rfl⟩ := hrel
      by_cases hlt : m < s.length
      · have hlt' : m < t.length := by rw [← HL.out]; exact hlt
        obtain ⟨x, hx⟩ : ∃ x, s[m]? = some x := ⟨s[m], by simp [hlt]⟩
        obtain ⟨y, hy⟩ : ∃ y, t[m]? = some y := ⟨t[m], by simp [hlt']⟩
        obtain ⟨b, off, vx, ha, hb, hc, hix⟩ := HV.out m x hx
        obtain ⟨b', off', vy, ha', hb', hd, hiy⟩ := HV'.out m y hy
        have HX : Hid (s[m]? = some x) := hx
        have HY : Hid (t[m]? = some y) := hy
        have HIX : Hid (IArg w vx x) := hix
        have HIY : Hid (IArg w vy y) := hiy
        obtain ⟨a5, c5, rfl, _, _⟩ := hix
        obtain ⟨a6, c6, rfl, _, _⟩ := hiy
        subst ha; subst ha'
        clear hx hy
        have HS : Hid (∀ p q, Calls Tryz.prog 35 #[.slice a5 x.length c5, .slice a6 y.length c6] (w.drewN (p + q)) fun e w' => e = .returned (.bool (decide (x = y))) ∧ ∃ n, w' = w.drewN (p + n)) := by
          intro p q
          refine (sameints_any x y _ _ (w.drewN (p + q)) HIX.out HIY.out).mono ?_
          rintro e w' ⟨rfl, n, rfl⟩
          exact ⟨rfl, q + n, by rw [drewN_drewN, Nat.add_assoc]⟩
        by_cases hq : x = y
        · have hq2 : decide (x = y) = true := decide_eq_true hq
          have HN : Hid (s.take (m + 1) = t.take (m + 1)) := take_same s t m x hall.out HX.out (by rw [hq]; exact HY.out)
          rw [hq2] at HS
          clear hq hq2
          go_wp2
          go_quiet ((go_at_call 35; exact HS.out _ _))
          go_wp2
          go_roundw
          case rel => exact ⟨m + 1, by omega, by go_num, HN, _, rfl⟩
          case measure => simp [intOf]; omega
        · have hq2 : decide (x = y) = false := decide_eq_false hq
          have HN : Hid (R = false) := by rw [← HR.out]; exact decide_eq_false (not_same s t m x y HX.out HY.out hq)
          rw [hq2] at HS
          clear hq hq2
          go_wp2
          go_quiet ((go_at_call 35; exact HS.out _ _))
          go_wp2
          go_ret
          exact ⟨ret_bool HN.out.symm, _, drewN_drewN _ _ _⟩
      · have HN : Hid (R = true) := by rw [← HR.out]; exact decide_eq_true (same_end s t m hall.out hlt HL.out)
        go_wp2
        go_ret
        exact ⟨ret_bool HN.out.symm, _, rfl⟩
  · have HN : Hid (R = false) := by rw [← HR.out]; exact decide_eq_false (fun h => hl (by rw [h]))
    have g0 : ((s.length : Int) != (t.length : Int)) = true := by simp; omega
    clear hl
    go_enter Tryz.func32, Tryz.ntmps32
    go_wp2
    go_ret
    exact ⟨ret_bool HN.out.symm, 0, rfl⟩
end Go.Proofs.YtggkbhafbhhhhacGreat
/-
  WALK: storeBegun.
-/
namespace Go.Proofs.YtggkbhafbhhhhacGreat
open Go.RowKit

/-- A store of two rows, written out. -/
theorem lit2 {w : World} (a b : List Int) (B1 B2 B3 : Nat) (h1 : B1 = w.heap.size) (h2 : B2 = w.heap.size + 1) (h3 : B3 = w.heap.size + 2) (ha : a.length ≤ 100) (hb : b.length ≤ 100) :
    RArg (((w.alloc (.cells (a.map (Value.int .i64)).toArray 3)).alloc (.cells (b.map (Value.int .i64)).toArray 3)).alloc (.cells #[.slice (some ⟨B1, 0, none⟩) a.length a.length, .slice (some ⟨B2, 0, none⟩) b.length b.length] 36)) (.slice (some ⟨B3, 0, none⟩) 2 2) [a, b] := by
  subst h1; subst h2; subst h3
  refine ⟨_, 2, rfl, ⟨by simp, by unfold maxLen; omega⟩, fun i r hr => ?_⟩
  match i, hr with
  | 0, hr =>
    cases hr
    refine ⟨_, 0, _, rfl, by simp, World.cell?_alloc_at _ _ _ _ (by simp), ⟨_, _, rfl, ⟨Nat.le_refl _, by unfold maxLen; omega⟩, fun j z hz => ⟨_, 0, rfl, by simp; omega, ?_⟩⟩⟩
    rw [World.cell?_alloc_past _ _ _ (by simp; omega), World.cell?_alloc_past _ _ _ (by simp), World.cell?_alloc_at _ _ _ _ rfl]
    simp [hz]
  | 1, hr =>
    cases hr
    refine ⟨_, 0, _, rfl, by simp, World.cell?_alloc_at _ _ _ _ (by simp), ⟨_, _, rfl, ⟨Nat.le_refl _, by unfold maxLen; omega⟩, fun j z hz => ⟨_, 0, rfl, by simp, ?_⟩⟩⟩
    rw [World.cell?_alloc_past _ _ _ (by simp), World.cell?_alloc_at _ _ _ _ (by simp)]
    simp [hz]

theorem below3 (w : World) (o1 o2 o3 : Obj) : Below w.heap.size w (((w.alloc o1).alloc o2).alloc o3) := ((below_alloc _ _).alloc (by simp) _).alloc (by simp; omega) _
theorem two_begin : beginA twoM = ([[0, 1, 2], [0, 1, 2]], 0) := by unfold beginA; rw [if_pos two_checks]; rfl
theorem two_meet : meetA twoM [[0, 1, 2], [0, 1, 2]] [[1], [0, 2]] = ([[1], [0, 2]], 0) := by
  have h : checkL twoM [[[0, 1, 2], [0, 1, 2]], [[1], [0, 2]]] = 0 := by unfold checkL; rw [if_pos two_checks]; decide
  unfold meetA; rw [if_pos h]; rfl
theorem two_within : withinA twoM [[1], [0, 2]] [[0, 1, 2], [0, 1, 2]] = (true, 0) := by
  have h : checkL twoM [[[1], [0, 2]], [[0, 1, 2], [0, 1, 2]]] = 0 := by unfold checkL; rw [if_pos two_checks]; decide
  unfold withinA; rw [if_pos h]; decide
theorem two_failed : failedA twoM [[0, 1, 2], [0, 1, 2]] = (false, 0) := by
  have h : checkL twoM [[[0, 1, 2], [0, 1, 2]]] = 0 := by unfold checkL; rw [if_pos two_checks]; decide
  unfold failedA; rw [if_pos h]; decide
theorem two_check : checkL twoM [[[1], [0, 2]]] = 0 := by unfold checkL; rw [if_pos two_checks]; decide

set_option maxHeartbeats 1600000 in
set_option maxRecDepth 100000 in
theorem begun_store (w : World) :
    Calls Tryz.prog 11 #[] w fun e w' => e = .returned (.bool true) ∧ Below w.heap.size w w' := by
  go_enter Tryz.func11, Tryz.ntmps11
  go_wp2_with fail
  refine (two_any _).mono ?_
  rintro e w1 ⟨vs, cs, rfl, hm, hb1⟩
  go_wp2_with fail
  refine (sbegin_any twoM _ _ _ hm).mono ?_
  rintro e w2 ⟨xs, rfl, hxs, hb2⟩
  rw [two_begin] at hxs ⊢
  have hB2 : Below w.heap.size w w2 := hb1.trans (hb2.mono hb1.size)
  have HXS : Hid (∀ w' : World, Below w2.heap.size w2 w' → RArg w' xs [[0, 1, 2], [0, 1, 2]]) := fun w' h => RArg.below h hxs
  obtain ⟨a1, c1, rfl, _, _⟩ := hxs
  clear hm hb1 hb2
  go_wp2_with fail
  refine (two_any _).mono ?_
  rintro e w3 ⟨vs, cs, rfl, hm, hb3⟩
  have HM3 : Hid (∀ w' : World, Below w3.heap.size w3 w' → MArg w' vs cs twoM) := fun w' h => MArg.below h hm
  clear hm
  go_wp2_with fail
  have hs3 := hb3.size
  refine (smeet_any twoM [[0, 1, 2], [0, 1, 2]] [[1], [0, 2]] _ _ _ _ _ (HM3.out _ (below3 _ _ _ _)) (HXS.out _ (hb3.trans ((below3 _ _ _ _).mono hs3))) (lit2 [1] [0, 2] _ _ _ rfl rfl rfl (by decide) (by decide))).mono ?_
  rintro e w4 ⟨xt, rfl, hxt, hb4⟩
  rw [two_meet] at hxt ⊢
  have hB4 : Below w2.heap.size w2 w4 := (hb3.trans ((below3 _ _ _ _).mono hs3)).trans (hb4.mono (by simp; omega))
  have HXT : Hid (∀ w' : World, Below w4.heap.size w4 w' → RArg w' xt [[1], [0, 2]]) := fun w' h => RArg.below h hxt
  obtain ⟨a2, c2, rfl, _, _⟩ := hxt
  clear hb3 hb4 HM3 hs3
  have hs4 := hB4.size
  go_wp2_with fail
  refine (two_any _).mono ?_
  rintro e w5 ⟨vs, cs, rfl, hm, hb5⟩
  have hs5 := hb5.size
  go_wp2_with fail
  refine (swithin_any twoM [[1], [0, 2]] [[0, 1, 2], [0, 1, 2]] _ _ _ _ _ hm (HXT.out _ hb5) (HXS.out _ (hB4.trans (hb5.mono hs4)))).mono ?_
  rintro e w6 ⟨rfl, hb6⟩
  rw [two_within]
  have hB6 : Below w4.heap.size w4 w6 := hb5.trans (hb6.mono hs5)
  clear hb5 hb6 hm hs5
  have hs6 := hB6.size
  go_wp2_with fail
  refine (two_any _).mono ?_
  rintro e w7 ⟨vs, cs, rfl, hm, hb7⟩
  have hs7 := hb7.size
  go_wp2_with fail
  refine (sfailed_any twoM [[0, 1, 2], [0, 1, 2]] _ _ _ _ hm (HXS.out _ ((hB4.trans (hB6.mono hs4)).trans (hb7.mono (by omega))))).mono ?_
  rintro e w8 ⟨rfl, hb8⟩
  rw [two_failed]
  have hB8 : Below w4.heap.size w4 w8 := (hB6.trans (hb7.mono hs6)).trans (hb8.mono (by omega))
  clear hb7 hb8 hm hs7 hB6 hs6
  have hs8 := hB8.size
  go_wp2_with fail
  refine (samestore_any [[0, 1, 2], [0, 1, 2]] [[0, 1, 2], [0, 1, 2]] _ _ _ (HXS.out _ ((hB4.trans (hB8.mono hs4)).trans ((below3 _ _ _ _).mono (by omega)))) (lit2 [0, 1, 2] [0, 1, 2] _ _ _ rfl rfl rfl (by decide) (by decide))).mono ?_
  rintro e w9 ⟨rfl, n9, h9⟩
  rw [show decide (([[0, 1, 2], [0, 1, 2]] : Sto) = [[0, 1, 2], [0, 1, 2]]) = true from by decide]
  have hB9 : Below w4.heap.size w4 w9 := (hB8.trans ((below3 _ _ _ _).mono hs8)).trans ((draws_below h9).mono (by simp; omega))
  clear h9 hB8 hs8
  have hs9 := hB9.size
  go_wp2_with fail
  refine (samestore_any [[1], [0, 2]] [[1], [0, 2]] _ _ _ (HXT.out _ (hB9.trans ((below3 _ _ _ _).mono hs9))) (lit2 [1] [0, 2] _ _ _ rfl rfl rfl (by decide) (by decide))).mono ?_
  rintro e wa ⟨rfl, na, ha⟩
  rw [show decide (([[1], [0, 2]] : Sto) = [[1], [0, 2]]) = true from by decide]
  have hBa : Below w4.heap.size w4 wa := (hB9.trans ((below3 _ _ _ _).mono hs9)).trans ((draws_below ha).mono (by simp; omega))
  clear ha hB9 hs9
  have hsa := hBa.size
  go_wp2_with fail
  refine (two_any _).mono ?_
  rintro e wb ⟨vs, cs, rfl, hm, hbb⟩
  have hsb := hbb.size
  go_wp2_with fail
  refine (scheck_any twoM [[1], [0, 2]] _ _ _ _ hm (HXT.out _ (hBa.trans (hbb.mono hsa)))).mono ?_
  rintro e wc ⟨rfl, hbc⟩
  rw [two_check]
  have hBc : Below w.heap.size w wc := (hB2.trans ((hB4.trans ((hBa.trans ((hbb.mono hsa).trans (hbc.mono (by omega)))).mono hs4)).mono hB2.size))
  clear hbc hbb hm hBa hB4 hB2
  go_wp2
  go_ret
  exact ⟨rfl, hBc⟩
end Go.Proofs.YtggkbhafbhhhhacGreat
/-
  PLAIN: the constraint of two(), and its scope.
-/
namespace Go.Proofs.YtggkbhafbhhhhacGreat

def twoC : MCon := ⟨1, [0, 1], [1, -1], -1, [], []⟩
theorem sort_01 : sortI [0, 1] = [0, 1] := by
  unfold sortI
  exact List.mergeSort_of_pairwise (by decide)
theorem two_scopeC : scopeC twoC = [0, 1] := by
  have h1 : scopeL twoC = [0, 1] := by rfl
  unfold scopeC
  rw [h1, sort_01]
  decide
end Go.Proofs.YtggkbhafbhhhhacGreat
/-
  WALK: filterBegun.
-/
namespace Go.Proofs.YtggkbhafbhhhhacGreat
open Go.RowKit

theorem two_filter : filterA twoM 0 [[0, 1, 2], [0, 1, 2]] = ([[0, 1], [1, 2]], 0) := by
  have h : checkL twoM [[[0, 1, 2], [0, 1, 2]]] = 0 := by unfold checkL; rw [if_pos two_checks]; decide
  have h0 : conCheck twoM 0 = 0 := by kernel_rfl
  have h1 : twoM.cons.getD (0 : Int).toNat noCon = twoC := by rfl
  unfold filterA
  rw [if_pos h, if_pos h0, h1]
  unfold filterS staysB metAll
  simp only [two_scopeC]
  decide +kernel

set_option maxHeartbeats 1600000 in
set_option maxRecDepth 100000 in
theorem begun_filter (w : World) :
    Calls Tryz.prog 8 #[] w fun e w' => e = .returned (.bool true) ∧ Below w.heap.size w w' := by
  go_enter Tryz.func8, Tryz.ntmps8
  go_wp2_with fail
  refine (two_any _).mono ?_
  rintro e w1 ⟨vs, cs, rfl, hm, hb1⟩
  have HM1 : Hid (∀ w' : World, Below w1.heap.size w1 w' → MArg w' vs cs twoM) := fun w' h => MArg.below h hm
  clear hm
  go_wp2_with fail
  refine (filter_any twoM 0 [[0, 1, 2], [0, 1, 2]] _ _ _ _ (HM1.out _ (below3 _ _ _ _)) (lit2 [0, 1, 2] [0, 1, 2] _ _ _ rfl rfl rfl (by decide) (by decide))).mono ?_
  rintro e w2 ⟨x, rfl, hx, hb2⟩
  rw [two_filter] at hx ⊢
  have hB2 : Below w.heap.size w w2 := hb1.trans (((below3 _ _ _ _).trans (hb2.mono (by simp; omega))).mono hb1.size)
  have HX : Hid (∀ w' : World, Below w2.heap.size w2 w' → RArg w' x [[0, 1], [1, 2]]) := fun w' h => RArg.below h hx
  obtain ⟨ax, cx, rfl, _, _⟩ := hx
  clear hb1 hb2 HM1
  go_wp2_with fail
  refine (samestore_any [[0, 1], [1, 2]] [[0, 1], [1, 2]] _ _ _ (HX.out _ (below3 _ _ _ _)) (lit2 [0, 1] [1, 2] _ _ _ rfl rfl rfl (by decide) (by decide))).mono ?_
  rintro e w3 ⟨rfl, n3, h3⟩
  rw [show decide (([[0, 1], [1, 2]] : Sto) = [[0, 1], [1, 2]]) = true from by decide]
  have hB3 : Below w.heap.size w w3 := hB2.trans ((((below3 _ _ _ _).trans ((draws_below h3).mono (by simp; omega)))).mono hB2.size)
  clear h3 hB2
  go_wp2
  go_ret
  exact ⟨rfl, hB3⟩
end Go.Proofs.YtggkbhafbhhhhacGreat
/-
  WALK: package model: Holds.
-/
namespace Go.Proofs.YtggkbhafbhhhhacGreat
open Go.RowKit

set_option maxHeartbeats 1600000 in
set_option maxRecDepth 100000 in
theorem mholds_any (m : Mod) (con : Int) (vals : List Int) (vs cs v : Value) (w : World) (hm : MArg w vs cs m) (hv : IArg w v vals) :
    Calls Tryz.prog 13 #[modV vs cs m, .int .i64 con, v] w fun e w' => e = .returned (.tuple #[.bool (holdsA m con vals).1, .int .i64 (holdsA m con vals).2]) ∧ Below w.heap.size w w' := by
  have HMA : Hid (∀ w' : World, Below w.heap.size w w' → MArg w' vs cs m) := fun w' h => MArg.below h hm
  have HVA : Hid (∀ w' : World, Below w.heap.size w w' → IArg w' v vals) := fun w' h => IArg.below h hv
  obtain ⟨⟨a1, c1, rfl, _, _⟩, ⟨a2, c2, rfl, hl2, hr2⟩⟩ := hm
  obtain ⟨a3, c3, rfl, hl3, hr3⟩ := hv
  have HC : Hid (∀ (i : Nat) (t : MCon), m.cons[i]? = some t → ∃ b off vv vc vr vl, a2 = some ⟨b, off, none⟩ ∧ b < w.heap.size ∧
    w.cell? ⟨b, off + i * 6, none⟩ = some (.int .i64 t.kind) ∧ w.cell? ⟨b, off + i * 6 + 1, none⟩ = some vv ∧ w.cell? ⟨b, off + i * 6 + 2, none⟩ = some vc ∧
    w.cell? ⟨b, off + i * 6 + 3, none⟩ = some (.int .i64 t.n) ∧ w.cell? ⟨b, off + i * 6 + 4, none⟩ = some vr ∧ w.cell? ⟨b, off + i * 6 + 5, none⟩ = some vl ∧ KArg w vv vc vr vl t) := hr2
  have HV : Hid (∀ (i : Nat) (z : Int), vals[i]? = some z → ∃ b off, a3 = some ⟨b, off, none⟩ ∧ b < w.heap.size ∧ w.cell? ⟨b, off + i, none⟩ = some (.int .i64 z)) := hr3
  unfold maxLen at hl2 hl3
  obtain ⟨hl21, hl2⟩ := hl2
  obtain ⟨hl31, hl3⟩ := hl3
  obtain ⟨R, hR⟩ : ∃ R, holdsA m con vals = R := ⟨_, rfl⟩
  rw [hR]
  obtain ⟨er, her⟩ : ∃ er, conCheck m con = er := ⟨_, rfl⟩
  have HER : Hid (conCheck m con = er) := her
  have HE : Hid (R = if er = 0 then
    (if vals.length = m.vars.length then (if vals.all (fun x => inB x 50) then (holdsC (m.cons.getD con.toNat noCon) vals, 0) else (false, 3)) else (false, 1))
    else (false, er)) := by rw [← hR, ← her]; rfl
  clear hR her hr2 hr3
  unfold modV
  go_enter Tryz.func13, Tryz.ntmps13
  go_wp2_with fail
  refine (check_con m con (.slice a1 m.vars.length c1) (.slice a2 m.cons.length c2) _ ?_).mono ?_
  · exact HMA.out _ (below_alloc _ _)
  rintro e w1 ⟨rfl, hb1⟩
  rw [HER.out]
  have d0 : w1.cell? ⟨w.heap.size, 0, none⟩ = some (.slice a1 m.vars.length c1) := (hb1.cell (by simp)).trans (by simp)
  have d1 : w1.cell? ⟨w.heap.size, 1, none⟩ = some (.slice a2 m.cons.length c2) := (hb1.cell (by simp)).trans (by simp)
  have HB1 : Hid (Below w.heap.size w w1) := (below_alloc _ _).trans (hb1.mono (by simp))
  clear hb1
  by_cases he : er = 0
  · subst he
    obtain ⟨o1, o2, o3⟩ := conCheck_ok m con HER.out
    by_cases hl : vals.length = m.vars.length
    · have g0 : ((vals.length : Int) != (m.vars.length : Int)) = false := by simp [hl]
      have HL : Hid (vals.length = m.vars.length) := hl
      have HE2 : Hid (R = if vals.all (fun x => inB x 50) then (holdsC (m.cons.getD con.toNat noCon) vals, 0) else (false, 3)) := by rw [HE.out, if_pos rfl, if_pos hl]; rfl
      have HO1 : Hid (checkM m = 0) := o1
      clear hl o1
      go_wp2_with fail
      go_loop [25] (fun i => ∃ k : Nat, k ≤ vals.length ∧ i = .int .i64 k ∧ Hid ((vals.take k).all (fun x => inB x 50) = true)) (fun i => vals.length - (intOf i).toNat)
      case atStart => exact ⟨0, by omega, rfl, rfl⟩
      case round =>
        obtain ⟨k, hk, rfl, hall⟩ := hrel
        by_cases hlt : k < vals.length
        · obtain ⟨x, hx⟩ : ∃ x, vals[k]? = some x := ⟨vals[k], by simp [hlt]⟩
          obtain ⟨b, off, rfl, hb, e0⟩ := HV.out k x hx
          have e1 := (HB1.out.cell (p := ⟨b, off + k, none⟩) hb).trans e0
          have HX : Hid (vals[k]? = some x) := hx
          clear hx e0 hb
          cases hq : inB x 50
          · have HN : Hid (R = (false, 3)) := by rw [HE2.out, all_hit (fun x => inB x 50) vals k x HX.out hq]; rfl
            go_wp2_with fail
            refine (within_any _ 50 (by omega) (by omega) _).mono ?_
            rintro e w1 ⟨rfl, rfl⟩
            rw [hq]
            clear hq
            go_wp2
            go_ret2
            exact ⟨by rw [HN.out]; rfl, HB1.out⟩
          · have HN : Hid ((vals.take (k + 1)).all (fun x => inB x 50) = true) := all_next (fun x => inB x 50) vals k x HX.out hall.out hq
            go_wp2_with fail
            refine (within_any _ 50 (by omega) (by omega) _).mono ?_
            rintro e w1 ⟨rfl, rfl⟩
            rw [hq]
            clear hq
            go_wp2
            go_round
            case rel => exact ⟨k + 1, by omega, by go_num, HN⟩
            case measure => simp [intOf]; omega
        · have HA : Hid (vals.all (fun x => inB x 50) = true) := all_end _ vals k hlt hall.out
          obtain ⟨j, rfl⟩ : ∃ j : Nat, con = (j : Int) := ⟨con.toNat, by omega⟩
          have hjl : j < m.cons.length := by omega
          obtain ⟨c, hc⟩ : ∃ c, m.cons[j]? = some c := ⟨m.cons[j], by simp [hjl]⟩
          have HN : Hid (R = (holdsC c vals, 0)) := by
            rw [HE2.out, HA.out, if_pos rfl, Int.toNat_natCast, List.getD_eq_getElem?_getD, hc]; rfl
          obtain ⟨b, off, vv, vc, vr, vl, ha, hb, f0, f1, f2, f3, f4, f5, hka⟩ := HC.out j c hc
          subst ha
          have e0 := (HB1.out.cell (p := ⟨b, off + j * 6, none⟩) hb).trans f0
          have e1 := (HB1.out.cell (p := ⟨b, off + j * 6 + 1, none⟩) hb).trans f1
          have e2 := (HB1.out.cell (p := ⟨b, off + j * 6 + 2, none⟩) hb).trans f2
          have e3 := (HB1.out.cell (p := ⟨b, off + j * 6 + 3, none⟩) hb).trans f3
          have e4 := (HB1.out.cell (p := ⟨b, off + j * 6 + 4, none⟩) hb).trans f4
          have e5 := (HB1.out.cell (p := ⟨b, off + j * 6 + 5, none⟩) hb).trans f5
          have HK : Hid (KArg w1 vv vc vr vl c) := KArg.below HB1.out hka
          have HCE : Hid (conE vals.length c = 0) := by rw [HL.out]; exact con_ok m HO1.out j c hc
          have HBD : Hid (∀ x ∈ vals, -50 ≤ x ∧ x ≤ 50) := fun x hx => by
            have := List.all_eq_true.1 HA.out x hx
            simpa [inB] using this
          obtain ⟨⟨q1, r1, rfl, _, _⟩, ⟨q2, r2, rfl, _, _⟩, ⟨q3, r3, rfl, _, _⟩, ⟨q4, r4, rfl, _, _⟩⟩ := hka
          clear hc f0 f1 f2 f3 f4 f5 hb
          go_wp2_with fail
          refine (holds_any c vals _ _ _ _ _ _ HK.out (HVA.out _ HB1.out) HCE.out HBD.out).mono ?_
          rintro e w2 ⟨rfl, hb2⟩
          have hb3 : Below w.heap.size w w2 := HB1.out.trans (hb2.mono HB1.out.size)
          clear hb2
          go_wp2
          go_ret2
          exact ⟨by rw [HN.out]; rfl, hb3⟩
    · have g0 : ((vals.length : Int) != (m.vars.length : Int)) = true := by simp; omega
      have HN : Hid (R = (false, 1)) := by rw [HE.out, if_pos rfl, if_neg hl]; rfl
      clear hl
      go_wp2
      go_ret2
      exact ⟨by rw [HN.out]; rfl, HB1.out⟩
  · have HN : Hid (R = (false, er)) := by rw [HE.out, if_neg he]; rfl
    have he2 : (er != 0) = true := by simpa using he
    clear he
    go_wp2
    go_ret2
    exact ⟨by rw [HN.out]; rfl, HB1.out⟩
end Go.Proofs.YtggkbhafbhhhhacGreat
/-
  WALK: package model: All.
-/
namespace Go.Proofs.YtggkbhafbhhhhacGreat
open Go.RowKit

set_option maxHeartbeats 1600000 in
set_option maxRecDepth 100000 in
theorem mall_any (m : Mod) (vals : List Int) (vs cs v : Value) (w : World) (hm : MArg w vs cs m) (hv : IArg w v vals) :
    Calls Tryz.prog 33 #[modV vs cs m, v] w fun e w' => e = .returned (.tuple #[.bool (allA m vals).1, .int .i64 (allA m vals).2]) ∧ Below w.heap.size w w' := by
  have HMA : Hid (∀ w' : World, Below w.heap.size w w' → MArg w' vs cs m) := fun w' h => MArg.below h hm
  have HVA : Hid (∀ w' : World, Below w.heap.size w w' → IArg w' v vals) := fun w' h => IArg.below h hv
  obtain ⟨⟨a1, c1, rfl, hl1, hr1⟩, ⟨a2, c2, rfl, hl2, hr2⟩⟩ := hm
  obtain ⟨a3, c3, rfl, hl3, hr3⟩ := hv
  have HV1 : Hid (∀ (i : Nat) (t : MVar), m.vars[i]? = some t → t.name.size ≤ maxLen ∧ ∃ b off, a1 = some ⟨b, off, none⟩ ∧ b < w.heap.size ∧
    w.cell? ⟨b, off + i * 3, none⟩ = some (.string t.name) ∧ w.cell? ⟨b, off + i * 3 + 1, none⟩ = some (.int .i64 t.lo) ∧ w.cell? ⟨b, off + i * 3 + 2, none⟩ = some (.int .i64 t.hi)) := hr1
  have HC : Hid (∀ (i : Nat) (t : MCon), m.cons[i]? = some t → ∃ b off vv vc vr vl, a2 = some ⟨b, off, none⟩ ∧ b < w.heap.size ∧
    w.cell? ⟨b, off + i * 6, none⟩ = some (.int .i64 t.kind) ∧ w.cell? ⟨b, off + i * 6 + 1, none⟩ = some vv ∧ w.cell? ⟨b, off + i * 6 + 2, none⟩ = some vc ∧
    w.cell? ⟨b, off + i * 6 + 3, none⟩ = some (.int .i64 t.n) ∧ w.cell? ⟨b, off + i * 6 + 4, none⟩ = some vr ∧ w.cell? ⟨b, off + i * 6 + 5, none⟩ = some vl ∧ KArg w vv vc vr vl t) := hr2
  have HV : Hid (∀ (i : Nat) (z : Int), vals[i]? = some z → ∃ b off, a3 = some ⟨b, off, none⟩ ∧ b < w.heap.size ∧ w.cell? ⟨b, off + i, none⟩ = some (.int .i64 z)) := hr3
  unfold maxLen at hl1 hl2 hl3
  obtain ⟨hl11, hl1⟩ := hl1
  obtain ⟨hl21, hl2⟩ := hl2
  obtain ⟨hl31, hl3⟩ := hl3
  obtain ⟨R, hR⟩ : ∃ R, allA m vals = R := ⟨_, rfl⟩
  rw [hR]
  obtain ⟨er, her⟩ : ∃ er, checkM m = er := ⟨_, rfl⟩
  have HER : Hid (checkM m = er) := her
  have HE : Hid (R = if er = 0 then
    (if vals.length = m.vars.length then ((m.vars.zip vals).all (fun p => insideV p.1 p.2) && m.cons.all (fun c => holdsC c vals), 0) else (false, 1))
    else (false, er)) := by rw [← hR, ← her]; rfl
  clear hR her hr1 hr2 hr3
  unfold modV
  go_enter Tryz.func33, Tryz.ntmps33
  go_wp2_with fail
  refine (check_model m (.slice a1 m.vars.length c1) (.slice a2 m.cons.length c2) _ ?_).mono ?_
  · exact HMA.out _ (below_alloc _ _)
  rintro e w1 ⟨rfl, hb1⟩
  rw [HER.out]
  have d0 : w1.cell? ⟨w.heap.size, 0, none⟩ = some (.slice a1 m.vars.length c1) := (hb1.cell (by simp)).trans (by simp)
  have d1 : w1.cell? ⟨w.heap.size, 1, none⟩ = some (.slice a2 m.cons.length c2) := (hb1.cell (by simp)).trans (by simp)
  have HD1 : Hid (w1.cell? ⟨w.heap.size, 1, none⟩ = some (.slice a2 m.cons.length c2)) := d1
  have hs1 : w.heap.size + 1 ≤ w1.heap.size := by simpa using hb1.size
  have HB1 : Hid (Below w.heap.size w w1) := (below_alloc _ _).trans (hb1.mono (by simp))
  clear hb1
  by_cases he : er = 0
  · subst he
    by_cases hl : vals.length = m.vars.length
    · have g0 : ((vals.length : Int) != (m.vars.length : Int)) = false := by simp [hl]
      have HL : Hid (vals.length = m.vars.length) := hl
      have HE2 : Hid (R = ((m.vars.zip vals).all (fun p => insideV p.1 p.2) && m.cons.all (fun c => holdsC c vals), 0)) := by rw [HE.out, if_pos rfl, if_pos hl]; rfl
      clear hl
      go_wp2_with fail
      go_loopw [25] (fun i wr => ∃ k : Nat, k ≤ m.vars.length ∧ i = .int .i64 k ∧ Hid (((m.vars.zip vals).take k).all (fun p => insideV p.1 p.2) = true) ∧ Below w1.heap.size w1 wr) (fun i _ => m.vars.length - (intOf i).toNat)
      case atStart => exact ⟨0, by omega, rfl, rfl, Below.refl _ _⟩
      case round =>
        obtain ⟨k, hk, rfl, hall, hbw⟩ := hrel
        have HBW : Hid (Below w.heap.size w wr) := HB1.out.trans (hbw.mono (by omega))
        have HBW1 : Hid (Below w1.heap.size w1 wr) := hbw
        by_cases hlt : k < m.vars.length
        · have hlt' : k < vals.length := by rw [HL.out]; exact hlt
          obtain ⟨x, hx⟩ : ∃ x, vals[k]? = some x := ⟨vals[k], by simp [hlt']⟩
          obtain ⟨t, ht⟩ : ∃ t, m.vars[k]? = some t := ⟨m.vars[k], by simp [hlt]⟩
          have HG : Hid ((m.vars.zip vals)[k]? = some (t, x)) := by show _ = _; rw [List.getElem?_zip_eq_some]; exact ⟨ht, hx⟩
          obtain ⟨b, off, rfl, hb, e0⟩ := HV.out k x hx
          obtain ⟨_, b', off', rfl, hb', f0, f1, f2⟩ := HV1.out k t ht
          have e1 := (HBW.out.cell (p := ⟨b, off + k, none⟩) hb).trans e0
          have k0 := (HBW.out.cell (p := ⟨b', off' + k * 3, none⟩) hb').trans f0
          have k1 := (HBW.out.cell (p := ⟨b', off' + k * 3 + 1, none⟩) hb').trans f1
          have k2 := (HBW.out.cell (p := ⟨b', off' + k * 3 + 2, none⟩) hb').trans f2
          have hbr : b < wr.heap.size := Nat.lt_of_lt_of_le hb HBW.out.size
          clear hx ht e0 f0 f1 f2 hb hb' hbw
          by_cases q1 : x < t.lo
          · have HN : Hid (R = (false, 0)) := by
              have := all_hit (fun p : MVar × Int => insideV p.1 p.2) (m.vars.zip vals) k (t, x) HG.out (by simp [insideV, q1])
              rw [HE2.out, this]; rfl
            have q2 : decide (x < t.lo) = true := decide_eq_true q1
            go_wp2
            go_quiet (fail)
            go_wp2
            go_ret2
            exact ⟨by rw [HN.out]; rfl, below_drewN (HBW.out.trans ((below_alloc _ _).mono HBW.out.size)) _⟩
          · have q2 : decide (x < t.lo) = false := decide_eq_false q1
            by_cases q3 : t.hi < x
            · have HN : Hid (R = (false, 0)) := by
                have := all_hit (fun p : MVar × Int => insideV p.1 p.2) (m.vars.zip vals) k (t, x) HG.out (by simp [insideV, q3])
                rw [HE2.out, this]; rfl
              clear q1
              go_wp2
              go_quiet (fail)
              go_wp2
              go_ret2
              exact ⟨by rw [HN.out]; rfl, below_drewN (HBW.out.trans ((below_alloc _ _).mono HBW.out.size)) _⟩
            · have HN : Hid (((m.vars.zip vals).take (k + 1)).all (fun p => insideV p.1 p.2) = true) := all_next (fun p : MVar × Int => insideV p.1 p.2) (m.vars.zip vals) k (t, x) HG.out hall.out (by simp [insideV]; omega)
              have q4 : decide (t.hi < x) = false := decide_eq_false q3
              clear q1 q3
              go_wp2
              go_quiet (fail)
              go_wp2
              go_roundw
              case rel => exact ⟨k + 1, by omega, by go_num, HN, below_drewN (HBW1.out.alloc HBW1.out.size _) _⟩
              case measure => simp [intOf]; omega
        · have HA : Hid ((m.vars.zip vals).all (fun p => insideV p.1 p.2) = true) := all_end _ _ k (by rw [List.length_zip, HL.out]; omega) hall.out
          have HE3 : Hid (R = (m.cons.all (fun c => holdsC c vals), 0)) := by rw [HE2.out, HA.out, Bool.true_and]; rfl
          have HBD : Hid (∀ x ∈ vals, -50 ≤ x ∧ x ≤ 50) := by
            intro x hx
            obtain ⟨i, hi⟩ := List.mem_iff_getElem?.1 hx
            have hil : i < m.vars.length := by rw [← HL.out]; exact (List.getElem?_eq_some_iff.1 hi).1
            have ht : m.vars[i]? = some m.vars[i] := by simp [hil]
            have hvo := var_ok m HER.out i _ ht
            have := List.all_eq_true.1 HA.out (m.vars[i], x) (List.mem_of_getElem? (i := i) (by rw [List.getElem?_zip_eq_some]; exact ⟨ht, hi⟩))
            simp [insideV] at this
            omega
          have e1 : wr.cell? ⟨w.heap.size, 1, none⟩ = some (.slice a2 m.cons.length c2) := (hbw.cell (p := ⟨w.heap.size, 1, none⟩) (by simp only; omega)).trans d1
          obtain ⟨wo, rfl⟩ : ∃ wo : World, wo = wr := ⟨_, rfl⟩
          go_wp2
          clear hk hall hbw hlt e1
          go_loopw [50] (fun i wr => ∃ k : Nat, k ≤ m.cons.length ∧ i = .int .i64 k ∧ Hid ((m.cons.take k).all (fun c => holdsC c vals) = true) ∧ Below w.heap.size w wr) (fun i _ => m.cons.length - (intOf i).toNat)
          case atStart => exact ⟨0, by omega, rfl, rfl, HBW.out⟩
          case round =>
            obtain ⟨j, hj, rfl, hall, hbw⟩ := hrel
            have HBR : Hid (Below w.heap.size w wr) := hbw
            clear hbw
            by_cases hlt : j < m.cons.length
            · obtain ⟨c, hc⟩ : ∃ c, m.cons[j]? = some c := ⟨m.cons[j], by simp [hlt]⟩
              have HCC : Hid (m.cons[j]? = some c) := hc
              obtain ⟨b, off, vv, vc, vr, vl, ha, hb, f0, f1, f2, f3, f4, f5, hka⟩ := HC.out j c hc
              subst ha
              have e0 := (HBR.out.cell (p := ⟨b, off + j * 6, none⟩) hb).trans f0
              have e1 := (HBR.out.cell (p := ⟨b, off + j * 6 + 1, none⟩) hb).trans f1
              have e2 := (HBR.out.cell (p := ⟨b, off + j * 6 + 2, none⟩) hb).trans f2
              have e3 := (HBR.out.cell (p := ⟨b, off + j * 6 + 3, none⟩) hb).trans f3
              have e4 := (HBR.out.cell (p := ⟨b, off + j * 6 + 4, none⟩) hb).trans f4
              have e5 := (HBR.out.cell (p := ⟨b, off + j * 6 + 5, none⟩) hb).trans f5
              have HK : Hid (KArg wr vv vc vr vl c) := KArg.below HBR.out hka
              have HCE : Hid (conE vals.length c = 0) := by rw [HL.out]; exact con_ok m HER.out j c hc
              obtain ⟨⟨q1, r1, rfl, _, _⟩, ⟨q2, r2, rfl, _, _⟩, ⟨q3, r3, rfl, _, _⟩, ⟨q4, r4, rfl, _, _⟩⟩ := hka
              clear hc f0 f1 f2 f3 f4 f5 hb
              cases hq : holdsC c vals
              · have HN : Hid (R = (false, 0)) := by rw [HE3.out, all_hit (fun c => holdsC c vals) m.cons j c HCC.out hq]; rfl
                go_wp2_with fail
                refine (holds_any c vals _ _ _ _ _ _ (KArg.below (below_alloc _ _) HK.out) (HVA.out _ (HBR.out.trans ((below_alloc _ _).mono HBR.out.size))) HCE.out HBD.out).mono ?_
                rintro e w2 ⟨rfl, hb2⟩
                rw [hq]
                have hb3 : Below w.heap.size w w2 := (HBR.out.trans ((below_alloc _ _).mono HBR.out.size)).trans (hb2.mono (by have := HBR.out.size; simp; omega))
                clear hb2 hq
                go_wp2
                go_ret2
                exact ⟨by rw [HN.out]; rfl, hb3⟩
              · have HN : Hid ((m.cons.take (j + 1)).all (fun c => holdsC c vals) = true) := all_next (fun c => holdsC c vals) m.cons j c HCC.out hall.out hq
                go_wp2_with fail
                refine (holds_any c vals _ _ _ _ _ _ (KArg.below (below_alloc _ _) HK.out) (HVA.out _ (HBR.out.trans ((below_alloc _ _).mono HBR.out.size))) HCE.out HBD.out).mono ?_
                rintro e w2 ⟨rfl, hb2⟩
                rw [hq]
                have hb3 : Below w.heap.size w w2 := (HBR.out.trans ((below_alloc _ _).mono HBR.out.size)).trans (hb2.mono (by have := HBR.out.size; simp; omega))
                clear hb2 hq
                go_wp2
                go_roundw
                case rel => exact ⟨j + 1, by omega, by go_num, HN, hb3⟩
                case measure => simp [intOf]; omega
            · have HN : Hid (R = (true, 0)) := by rw [HE3.out, all_end _ m.cons j hlt hall.out]; rfl
              go_wp2
              go_ret2
              exact ⟨by rw [HN.out]; rfl, HBR.out⟩
    · have g0 : ((vals.length : Int) != (m.vars.length : Int)) = true := by simp; omega
      have HN : Hid (R = (false, 1)) := by rw [HE.out, if_pos rfl, if_neg hl]; rfl
      clear hl
      go_wp2
      go_ret2
      exact ⟨by rw [HN.out]; rfl, HB1.out⟩
  · have HN : Hid (R = (false, er)) := by rw [HE.out, if_neg he]; rfl
    have he2 : (er != 0) = true := by simpa using he
    clear he
    go_wp2
    go_ret2
    exact ⟨by rw [HN.out]; rfl, HB1.out⟩
end Go.Proofs.YtggkbhafbhhhhacGreat
/-
  WALK: modelBegun.
-/
namespace Go.Proofs.YtggkbhafbhhhhacGreat
open Go.RowKit

theorem two_holds : holdsA twoM 0 [0, 1] = (true, 0) := by kernel_rfl
theorem two_all : allA twoM [2, 1] = (false, 0) := by kernel_rfl
theorem sort01 : sortI [0, 1] = [0, 1] := by
  unfold sortI
  exact List.mergeSort_of_pairwise (by decide)
theorem two_scope : scopeA twoM 0 = ([0, 1], 0) := by
  have h0 : conCheck twoM 0 = 0 := by kernel_rfl
  unfold scopeA
  rw [if_pos h0]
  have h1 : scopeL (twoM.cons.getD (0 : Int).toNat noCon) = [0, 1] := by rfl
  unfold scopeC
  rw [h1, sort01]
  decide
/-- A list of two, written out. -/
theorem ilit2 {w : World} (a b : Int) (B : Nat) (h : B = w.heap.size) : IArg (w.alloc (.cells #[.int .i64 a, .int .i64 b] 3)) (.slice (some ⟨B, 0, none⟩) 2 2) [a, b] := by
  subst h
  refine ⟨_, 2, rfl, ⟨by simp, by unfold maxLen; omega⟩, fun i z hz => ?_⟩
  match i, hz with
  | 0, hz => cases hz; exact ⟨_, 0, rfl, by simp, by simp⟩
  | 1, hz => cases hz; exact ⟨_, 0, rfl, by simp, by simp⟩

set_option maxHeartbeats 1600000 in
set_option maxRecDepth 100000 in
theorem begun_model (w : World) :
    Calls Tryz.prog 10 #[] w fun e w' => e = .returned (.bool true) ∧ Below w.heap.size w w' := by
  go_enter Tryz.func10, Tryz.ntmps10
  go_wp2_with fail
  refine (two_any _).mono ?_
  rintro e w1 ⟨vs, cs, rfl, hm, hb1⟩
  have HM : Hid (MArg w1 vs cs twoM) := hm
  clear hm
  go_wp2_with fail
  refine (mholds_any twoM 0 [0, 1] vs cs _ _ (MArg.below (below_alloc _ _) HM.out) (ilit2 0 1 _ rfl)).mono ?_
  rintro e w2 ⟨rfl, hb2⟩
  rw [two_holds]
  have hs1 := hb1.size
  have hB2 : Below w.heap.size w w2 := (hb1.alloc hs1 _).trans (hb2.mono (by simp; omega))
  clear hb1 hb2 HM hs1
  go_wp2_with fail
  refine (two_any _).mono ?_
  rintro e w3 ⟨vs, cs, rfl, hm, hb3⟩
  have HM : Hid (MArg w3 vs cs twoM) := hm
  clear hm
  go_wp2_with fail
  refine (mall_any twoM [2, 1] vs cs _ _ (MArg.below (below_alloc _ _) HM.out) (ilit2 2 1 _ rfl)).mono ?_
  rintro e w4 ⟨rfl, hb4⟩
  rw [two_all]
  have hs2 := hB2.size
  have hs3 := hb3.size
  have hB4 : Below w.heap.size w w4 := hB2.trans ((((hb3.alloc hs3 _).trans (hb4.mono (by simp; omega)))).mono hs2)
  clear hb3 hb4 HM hs2 hs3 hB2
  go_wp2_with fail
  refine (two_any _).mono ?_
  rintro e w5 ⟨vs, cs, rfl, hm, hb5⟩
  go_wp2_with fail
  refine (mscope_any twoM 0 vs cs _ hm).mono ?_
  rintro e w6 ⟨x, rfl, hx, hb6⟩
  rw [two_scope] at hx ⊢
  have HX : Hid (∀ w' : World, Below w6.heap.size w6 w' → IArg w' x [0, 1]) := fun w' h => IArg.below h hx
  obtain ⟨a6, c6, rfl, _, _⟩ := hx
  have hs4 := hB4.size
  have hs5 := hb5.size
  have hB6 : Below w.heap.size w w6 := hB4.trans ((hb5.trans (hb6.mono hs5)).mono hs4)
  clear hb5 hb6 hm hs4 hs5 hB4
  go_wp2_with fail
  refine (two_any _).mono ?_
  rintro e w7 ⟨vs, cs, rfl, hm, hb7⟩
  go_wp2_with fail
  refine (check_model twoM vs cs _ hm).mono ?_
  rintro e w8 ⟨rfl, hb8⟩
  rw [two_checks]
  have hs7 := hb7.size
  have hB8 : Below w6.heap.size w6 w8 := hb7.trans (hb8.mono hs7)
  have hs8 := hB8.size
  clear hb7 hb8 hm hs7
  go_wp2_with fail
  refine (sameints_any [0, 1] [0, 1] _ _ _ (HX.out _ (hB8.alloc hs8 _)) (ilit2 0 1 _ rfl)).mono ?_
  rintro e w9 ⟨rfl, n, h9⟩
  rw [show decide (([0, 1] : List Int) = [0, 1]) = true from by decide]
  have hB9 : Below w.heap.size w w9 := hB6.trans (((hB8.alloc hs8 _).trans ((draws0 h9).mono (by simp; omega))).mono hB6.size)
  clear h9
  go_wp2
  go_ret
  exact ⟨rfl, hB9⟩
end Go.Proofs.YtggkbhafbhhhhacGreat
/-
  WALKS: the reference's HasInt, HasFailed; the statements' has.
-/
namespace Go.Proofs.YtggkbhafbhhhhacGreat
open Go.RowKit

theorem hasB_flip (l : List Int) (n : Int) : hasB l n = l.any fun k => k == n := by
  unfold hasB
  congr 1
  funext k
  exact Bool.beq_comm
set_option maxHeartbeats 400000 in
set_option maxRecDepth 100000 in
theorem hasint_any (l : List Int) (v : Value) (n : Int) (w : World) (hv : IArg w v l) :
    Calls Tryz.prog 30 #[v, .int .i64 n] w fun e w' => e = .returned (.bool (hasB l n)) ∧ w' = w := by
  obtain ⟨a, c, rfl, hm, hr⟩ := hv
  have HV : Hid (∀ (i : Nat) (z : Int), l[i]? = some z → ∃ b off, a = some ⟨b, off, none⟩ ∧ b < w.heap.size ∧ w.cell? ⟨b, off + i, none⟩ = some (.int .i64 z)) := hr
  obtain ⟨R, hR⟩ : ∃ R, hasB l n = R := ⟨_, rfl⟩
  rw [hR]
  have HR : Hid ((l.any fun k => k == n) = R) := by show _ = _; rw [← hR, hasB_flip]
  unfold maxLen at hm
  obtain ⟨hm1, hm⟩ := hm
  clear hr hR
  go_enter Tryz.func30, Tryz.ntmps30
  go_wp2_with fail
  go_loop [5] (fun i => ∃ m : Nat, m ≤ l.length ∧ i = .int .i64 m ∧ Hid ((l.take m).any (fun k => k == n) = false)) (fun i => l.length - (intOf i).toNat)
  case atStart => exact ⟨0, by omega, rfl, rfl⟩
  case round =>
    obtain ⟨m, hml, rfl, hall⟩ := hrel
    by_cases hlt : m < l.length
    · obtain ⟨z, hz⟩ : ∃ z, l[m]? = some z := ⟨l[m], by simp [hlt]⟩
      obtain ⟨b, off, ha, hb, hc⟩ := HV.out m z hz
      have HZ : Hid (l[m]? = some z) := hz
      subst ha
      clear hz
      cases hq : (z == n)
      · have HN : Hid ((l.take (m + 1)).any (fun k => k == n) = false) := any_next (fun k => k == n) l m z HZ.out hall.out hq
        go_wp2
        go_round
        case rel => exact ⟨m + 1, by omega, by go_num, HN⟩
        case measure => simp [intOf]; omega
      · have HN : Hid (R = true) := by rw [← HR.out]; exact any_hit (fun k => k == n) l m z HZ.out hq
        go_wp2
        go_ret
        exact ⟨ret_bool HN.out.symm, rfl⟩
    · have HN : Hid (R = false) := by rw [← HR.out]; exact any_end _ l m hlt hall.out
      go_wp2
      go_ret
      exact ⟨ret_bool HN.out.symm, rfl⟩

set_option maxHeartbeats 400000 in
set_option maxRecDepth 100000 in
theorem hasfailed_any (s : Sto) (v : Value) (w : World) (hv : RArg w v s) :
    Calls Tryz.prog 24 #[v] w fun e w' => e = .returned (.bool (failedS s)) ∧ w' = w := by
  obtain ⟨a, c, rfl, hm, hr⟩ := hv
  have HV : Hid (∀ (i : Nat) (r : List Int), s[i]? = some r → ∃ b off x, a = some ⟨b, off, none⟩ ∧ b < w.heap.size ∧ w.cell? ⟨b, off + i, none⟩ = some x ∧ IArg w x r) := hr
  obtain ⟨R, hR⟩ : ∃ R, failedS s = R := ⟨_, rfl⟩
  rw [hR]
  have HR : Hid ((s.any fun r => decide (r.length = 0)) = R) := hR
  unfold maxLen at hm
  obtain ⟨hm1, hm⟩ := hm
  clear hr hR
  go_enter Tryz.func24, Tryz.ntmps24
  go_wp2_with fail
  go_loop [3] (fun i => ∃ m : Nat, m ≤ s.length ∧ i = .int .i64 m ∧ Hid ((s.take m).any (fun r => decide (r.length = 0)) = false)) (fun i => s.length - (intOf i).toNat)
  case atStart => exact ⟨0, by omega, rfl, rfl⟩
  case round =>
    obtain ⟨m, hml, rfl, hall⟩ := hrel
    by_cases hlt : m < s.length
    · obtain ⟨r, hz⟩ : ∃ r, s[m]? = some r := ⟨s[m], by simp [hlt]⟩
      obtain ⟨b, off, x, ha, hb, hc, hx⟩ := HV.out m r hz
      obtain ⟨a5, c5, rfl, _, _⟩ := hx
      have HZ : Hid (s[m]? = some r) := hz
      subst ha
      clear hz
      by_cases h0 : r.length = 0
      · have HN : Hid (R = true) := by rw [← HR.out]; exact any_hit (fun r : List Int => decide (r.length = 0)) s m r HZ.out (decide_eq_true h0)
        have g0 : ((r.length : Int) == 0) = true := by simp [h0]
        clear h0
        go_wp2
        go_ret
        exact ⟨ret_bool HN.out.symm, rfl⟩
      · have HN : Hid ((s.take (m + 1)).any (fun r => decide (r.length = 0)) = false) := any_next (fun r : List Int => decide (r.length = 0)) s m r HZ.out hall.out (decide_eq_false h0)
        have g0 : ((r.length : Int) == 0) = false := by simpa using h0
        clear h0
        go_wp2
        go_round
        case rel => exact ⟨m + 1, by omega, by go_num, HN⟩
        case measure => simp [intOf]; omega
    · have HN : Hid (R = false) := by rw [← HR.out]; exact any_end _ s m hlt hall.out
      go_wp2
      go_ret
      exact ⟨ret_bool HN.out.symm, rfl⟩

set_option maxHeartbeats 800000 in
set_option maxRecDepth 100000 in
theorem has_any (s : Sto) (vals : List Int) (v u : Value) (w : World) (hv : RArg w v s) (hu : IArg w u vals) :
    Calls Tryz.prog 14 #[v, u] w fun e w' => e = .returned (.bool (hasS s vals)) ∧ ∃ n, w' = w.drewN n := by
  obtain ⟨a, c, rfl, hm, hr⟩ := hv
  obtain ⟨a', c', rfl, hm', hr'⟩ := hu
  have HV : Hid (∀ (i : Nat) (r : List Int), s[i]? = some r → ∃ b off x, a = some ⟨b, off, none⟩ ∧ b < w.heap.size ∧ w.cell? ⟨b, off + i, none⟩ = some x ∧ IArg w x r) := hr
  have HV' : Hid (∀ (i : Nat) (z : Int), vals[i]? = some z → ∃ b off, a' = some ⟨b, off, none⟩ ∧ b < w.heap.size ∧ w.cell? ⟨b, off + i, none⟩ = some (.int .i64 z)) := hr'
  obtain ⟨R, hR⟩ : ∃ R, hasS s vals = R := ⟨_, rfl⟩
  rw [hR]
  have HR : Hid (hasS s vals = R) := hR
  unfold maxLen at hm hm'
  obtain ⟨hm1, hm⟩ := hm
  obtain ⟨hm1', hm'⟩ := hm'
  clear hr hr' hR
  by_cases hl : s.length = vals.length
  · have HL : Hid (s.length = vals.length) := hl
    have HE : Hid (R = (s.zip vals).all fun p => hasB p.1 p.2) := by show _ = _; rw [← HR.out]; unfold hasS; rw [decide_eq_true hl]; rfl
    have g0 : ((s.length : Int) != (vals.length : Int)) = false := by simp [hl]
    clear hl
    go_enter Tryz.func14, Tryz.ntmps14
    go_wp2_with fail
    go_loopw [5] (fun i wr => ∃ m : Nat, m ≤ s.length ∧ i = .int .i64 m ∧ Hid (((s.zip vals).take m).all (fun p => hasB p.1 p.2) = true) ∧ ∃ n, wr = w.drewN n) (fun i _ => s.length - (intOf i).toNat)
    case atStart => exact ⟨0, by omega, rfl, rfl, 0, rfl⟩
    case round =>
      obtain ⟨m, hml, rfl, hall, nq, rfl⟩ := hrel
      by_cases hlt : m < s.length
      · have hlt' : m < vals.length := by rw [← HL.out]; exact hlt
        obtain ⟨x, hx⟩ : ∃ x, s[m]? = some x := ⟨s[m], by simp [hlt]⟩
        obtain ⟨y, hy⟩ : ∃ y, vals[m]? = some y := ⟨vals[m], by simp [hlt']⟩
        have HG : Hid ((s.zip vals)[m]? = some (x, y)) := by show _ = _; rw [List.getElem?_zip_eq_some]; exact ⟨hx, hy⟩
        obtain ⟨b, off, vx, ha, hb, hc, hix⟩ := HV.out m x hx
        obtain ⟨b', off', ha', hb', hd⟩ := HV'.out m y hy
        have HIX : Hid (IArg w vx x) := hix
        obtain ⟨a5, c5, rfl, _, _⟩ := hix
        subst ha; subst ha'
        clear hx hy
        have HS : Hid (∀ p q, Calls Tryz.prog 30 #[.slice a5 x.length c5, .int .i64 y] (w.drewN (p + q)) fun e w' => e = .returned (.bool (hasB x y)) ∧ ∃ n, w' = w.drewN (p + n)) := by
          intro p q
          refine (hasint_any x _ y (w.drewN (p + q)) HIX.out).mono ?_
          rintro e w' ⟨rfl, rfl⟩
          exact ⟨rfl, q, rfl⟩
        cases hq : hasB x y
        · have HN : Hid (R = false) := by
            rw [HE.out]
            exact all_hit (fun p : List Int × Int => hasB p.1 p.2) (s.zip vals) m (x, y) HG.out hq
          rw [hq] at HS
          clear hq
          go_wp2
          go_quiet ((go_at_call 30; exact HS.out _ _))
          go_wp2
          go_ret
          exact ⟨ret_bool HN.out.symm, _, drewN_drewN _ _ _⟩
        · have HN : Hid (((s.zip vals).take (m + 1)).all (fun p => hasB p.1 p.2) = true) := all_next (fun p : List Int × Int => hasB p.1 p.2) (s.zip vals) m (x, y) HG.out hall.out hq
          rw [hq] at HS
          clear hq
          go_wp2
          go_quiet ((go_at_call 30; exact HS.out _ _))
          go_wp2
          go_roundw
          case rel => exact ⟨m + 1, by omega, by go_num, HN, _, rfl⟩
          case measure => simp [intOf]; omega
      · have HN : Hid (R = true) := by
          rw [HE.out]
          exact all_end _ (s.zip vals) m (by rw [List.length_zip, ← HL.out]; omega) hall.out
        go_wp2
        go_ret
        exact ⟨ret_bool HN.out.symm, _, rfl⟩
  · have HN : Hid (R = false) := by show _ = _; rw [← HR.out]; unfold hasS; rw [decide_eq_false hl]; rfl
    have g0 : ((s.length : Int) != (vals.length : Int)) = true := by simp; omega
    clear hl
    go_enter Tryz.func14, Tryz.ntmps14
    go_wp2
    go_ret
    exact ⟨ret_bool HN.out.symm, 0, rfl⟩
end Go.Proofs.YtggkbhafbhhhhacGreat
