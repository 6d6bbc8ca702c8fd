/-
  WALKS: package filter: which values stay; Filter.
-/
import Derived.Test.YtggkbhafbhhhhadGreatFilC
import Derived.Test.YtggkbhafbhhhhadGreatSifA
import Derived.Test.YtggkbhafbhhhhadGreatStoE
import Derived.Test.YtggkbhafbhhhhadGreatLitPlain
import Derived.Deep.DeepCutAuto
import Derived.Deep.OwnRows
namespace Go.Proofs.YtggkbhafbhhhhadGreat
open Go.RowKit Go.Maps

def staysT (F : Bool) (c : MCon) (scope vals : List Int) (l : List (Int × Int)) (k z : Int) : Bool :=
  if F then true else if scope.length = 0 then holdsC c vals else if hasB scope k then l.contains (k, z) else true

set_option maxHeartbeats 1600000 in
set_option maxRecDepth 100000 in
theorem stays_any (N B V M : Nat) (c : MCon) (vv vc vr vl sv stv : Value) (scope : List Int) (s : Sto) (vals : List Int) (l : List (Int × Int)) (F : Bool) (bf bsc k : Nat) (z : Int) (w : World)
    (hT : TrialS N B V M c vv vc vr vl sv stv scope s vals l w) (hf : w.cell? ⟨bf, 0, none⟩ = some (.bool F)) (hs : w.cell? ⟨bsc, 0, none⟩ = some sv) (hce : conE vals.length c = 0) (hvb : ∀ x ∈ vals, -50 ≤ x ∧ x ≤ 50)
    (hl : ∀ q ∈ l, okPair q) (hk : k ≤ 6) (hz : -50 ≤ z ∧ z ≤ 50) :
    Calls Tryz.prog 101 #[.int .i64 k, .int .i64 z, .pointer (some ⟨bf, 0, none⟩), .pointer (some ⟨bsc, 0, none⟩), .pointer (some ⟨B, 0, none⟩)] w fun e w' => e = .returned (.bool (staysT F c scope vals l k z)) ∧ Below w.heap.size w w' := by
  have HK := hT.parts.1
  have HI : Hid (IArg w sv scope) := hT.parts.2.1
  have HVA : Hid (IArg w (.slice (some ⟨V, 0, none⟩) vals.length vals.length) vals) := hT.vals_arg
  obtain ⟨asv, csv, hsv, hms, _⟩ := hT.parts.2.1
  subst hsv
  have HKK : Hid (KArg w vv vc vr vl c) := HK
  obtain ⟨⟨q1, r1, h1, _, _⟩, ⟨q2, r2, h2, _, _⟩, ⟨q3, r3, h3, _, _⟩, ⟨q4, r4, h4, _, _⟩⟩ := HK
  subst h1; subst h2; subst h3; subst h4
  have b0 := bk_cell hT.2.1 0 _ rfl
  have b1 := bk_cell hT.2.1 1 _ rfl
  have b2 := bk_cell hT.2.1 2 _ rfl
  have b3 := bk_cell hT.2.1 3 _ rfl
  have b4 := bk_cell hT.2.1 4 _ rfl
  have b5 := bk_cell hT.2.1 5 _ rfl
  have b8 := bk_cell hT.2.1 8 _ rfl
  have b9 := bk_cell hT.2.1 9 _ rfl
  have hown := hT.2.2.2.2
  have HHAS : Hid (Maps.has (setP (H := Unit) l) (pairK (k : Int) z) = l.contains ((k : Int), z)) := has_setP l ((k : Int), z) hl ⟨by unfold okInt; simp only; omega, by unfold okInt; simp only; omega⟩
  have hkey : keyOf Tryz.prog 124 (.agg #[.int .i64 (k : Int), .int .i64 z]) = some (pairK (k : Int) z) := keyOf_pair _ _ (by unfold okInt; omega) (by unfold okInt; omega)
  have HCE : Hid (conE vals.length c = 0) := hce
  have HVB : Hid (∀ x ∈ vals, -50 ≤ x ∧ x ≤ 50) := hvb
  unfold maxLen at hms
  obtain ⟨hms1, hms⟩ := hms
  clear hT hl hce hvb
  cases F
  · by_cases h0 : scope.length = 0
    · have HN : Hid (staysT false c scope vals l k z = holdsC c vals) := by show _ = _; unfold staysT; simp [h0]
      have g0 : ((scope.length : Int) == 0) = true := by simp [h0]
      rw [HN.out]
      clear h0 hkey hown
      go_enter Tryz.func101, Tryz.ntmps101
      go_wp2_with fail
      refine (holds_any c vals _ _ _ _ _ _ HKK.out HVA.out HCE.out HVB.out).mono ?_
      rintro e w1 ⟨rfl, hb1⟩
      go_wp2
      go_ret
      exact ⟨rfl, hb1⟩
    · have g0 : ((scope.length : Int) == 0) = false := by simpa using h0
      cases hq : hasB scope (k : Int)
      · have HN : Hid (staysT false c scope vals l k z = true) := by show _ = _; unfold staysT; simp [h0, hq]
        rw [HN.out]
        clear h0 hkey hown
        go_enter Tryz.func101, Tryz.ntmps101
        go_wp2_with fail
        refine (contains_ints scope _ (k : Int) _ HI.out).mono ?_
        rintro e w ⟨rfl, rfl⟩
        rw [hq]
        go_wp2
        go_ret
        exact ⟨rfl, Below.refl _ _⟩
      · have HN : Hid (staysT false c scope vals l k z = l.contains ((k : Int), z)) := by show _ = _; unfold staysT; simp [h0, hq]
        rw [HN.out]
        clear h0
        go_enter Tryz.func101, Tryz.ntmps101
        go_wp2_with fail
        refine (contains_ints scope _ (k : Int) _ HI.out).mono ?_
        rintro e w ⟨rfl, rfl⟩
        rw [hq]
        clear hq
        go_wp2_with (first
          | (at_lookup; refine wpList_lookup_own_unit _ rfl _ _ 118 rfl 124 122 Tryz.pairKeyed Tryz.underPairs (Tryz.unitZero _) M l.length _ rfl hown _ _ rfl hkey ?_)
          | go_in)
        go_ret
        exact ⟨ret_bool HHAS.out, below_alloc _ _⟩
  · have HN : Hid (staysT true c scope vals l k z = true) := rfl
    rw [HN.out]
    clear hkey hown
    go_enter Tryz.func101, Tryz.ntmps101
    go_wp2
    go_ret
    exact ⟨rfl, Below.refl _ _⟩
theorem enters_stays (args : Array Value) (w' : World) : Sem.run Tryz.prog (callFunc 101 args) w' = .ok (.enter 101 args) w' := by
  simp [callFunc, go_sem, Tryz.func101, Tryz.f101]

theorem bl3 (w : World) (o1 o2 o3 : Obj) : (((w.alloc o1).alloc o2).alloc o3).drew.heap[w.heap.size]? = some o1 ∧ (((w.alloc o1).alloc o2).alloc o3).drew.heap[w.heap.size + 1]? = some o2 ∧ (((w.alloc o1).alloc o2).alloc o3).drew.heap[w.heap.size + 1 + 1]? = some o3 := by
  refine ⟨?_, ?_, ?_⟩
  all_goals
    show (((w.heap.push _).push _).push _)[_]? = _
    simp only [Array.getElem?_push, Array.size_push]
    repeat first | rw [if_pos (by omega)] | rw [if_neg (by omega)]
  all_goals simp
theorem owns_none (w : World) (M : Nat) (h : w.heap[M]? = some (.map #[] 0)) : w.ownsMap Tryz.prog 124 unitElem M 0 (setP (H := Unit) []) := by
  obtain ⟨es, clock, hb, F, hs, hd⟩ := World.ownsMap_made (H := Unit) w Tryz.prog 124 unitElem
  have he : (w.alloc (.map #[] 0)).heap[w.heap.size]? = some (.map #[] 0) := by show (w.heap.push _)[w.heap.size]? = _; simp
  rw [he] at hb
  cases hb
  exact ⟨#[], 0, h, F, hs, hd⟩
theorem row_bounds (m : Mod) (s : Sto) (hm : checkM m = 0) (hs : checkV m.vars s = 0) : ∀ r ∈ s, ∀ x ∈ r, -50 ≤ x ∧ x ≤ 50 := by
  obtain ⟨h1, h2, h3⟩ := (checkV_ok _ _).1 hs
  intro r hr x hx
  obtain ⟨i, hi⟩ := List.mem_iff_getElem?.1 hr
  have hil : i < s.length := (List.getElem?_eq_some_iff.1 hi).1
  obtain ⟨v, hv⟩ : ∃ v, m.vars[i]? = some v := ⟨m.vars[i]'(by omega), by simp⟩
  have hvo := var_ok m hm i v hv
  have hin := (all_zip _ _ _).1 h2 i v r hv hi
  have := List.all_eq_true.1 hin x hx
  simp [insideB] at this
  omega
theorem met_ok (c : MCon) (s : Sto) (hb : ∀ r ∈ s, ∀ x ∈ r, -50 ≤ x ∧ x ≤ 50) (hs6 : s.length ≤ 6) (hsc : ∀ v ∈ scopeC c, 0 ≤ v ∧ v < (s.length : Int)) : ∀ q ∈ metAll c s, okPair q := by
  rintro ⟨k, z⟩ hq
  unfold metAll at hq
  rw [mem_metK] at hq
  obtain ⟨u, hu, _, hk, rfl⟩ := hq
  have h1 := hsc k hk
  obtain ⟨v, _, hv, hm⟩ := reach_in s _ _ u (fun v hv => by have := hsc v hv; simp only [zerosOf, List.length_replicate]; omega) hu k hk
  have h2 : -50 ≤ valAt u k ∧ valAt u k ≤ 50 := by
    rw [List.getD_eq_getElem?_getD] at hm
    cases hq : s[v.toNat]? with
    | none => rw [hq] at hm; cases hm
    | some r => rw [hq] at hm; exact hb r (List.mem_of_getElem? hq) _ hm
  exact ⟨by unfold okInt; simp only; omega, by unfold okInt; simp only; omega⟩
theorem zeros_bound (n : Nat) : ∀ x ∈ zerosOf n, -50 ≤ x ∧ x ≤ 50 := by
  intro x hx
  have := List.eq_of_mem_replicate hx
  omega
theorem staysT_eq (c : MCon) (s : Sto) (vals : List Int) (l : List (Int × Int)) (h : failedS s = false → l = metAll c s ∧ ((scopeC c).length = 0 → vals = zerosOf s.length)) (k : Nat) (z : Int) : staysT (failedS s) c (scopeC c) vals l k z = staysB c s k z := by
  unfold staysT staysB
  cases hf : failedS s
  · obtain ⟨h1, h2⟩ := h hf
    by_cases h0 : (scopeC c).length = 0
    · rw [h2 h0]; simp [h0]
    · rw [h1]; simp [h0]
  · rfl

theorem bel3 (w : World) (o1 o2 o3 : Obj) : Below w.heap.size w (((w.alloc o1).alloc o2).alloc o3) := ((below_alloc _ _).alloc (by simp) _).alloc (by simp; omega) _
theorem Tryz.infoInt9 : (Tryz.prog.info? 3).map (fun i => (i.zero, i.size, i.bytes)) = some (some (.int .i64 0), 1, 8) := by kernel_rfl
theorem Tryz.underInts9 : Tryz.prog.underlying 39 = some (.slice 3) := by kernel_rfl

set_option maxHeartbeats 3200000 in
set_option maxRecDepth 100000 in
theorem filter_any (m : Mod) (con : Int) (s : Sto) (vs cs v : Value) (w : World) (hm : MArg w vs cs m) (hv : RArg w v s) :
    Calls Tryz.prog 59 #[modV vs cs m, .int .i64 con, v] w fun e w' => ∃ x, e = .returned (.tuple #[x, .int .i64 (filterA m con s).2]) ∧ RArg w' x (filterA m con s).1 ∧ Below w.heap.size w w' := by
  have HMA : Hid (∀ w' : World, Below w.heap.size w w' → MArg w' vs cs m) := fun w' h => MArg.below h hm
  have HVA : Hid (∀ w' : World, Below w.heap.size w w' → RArg w' v s) := fun w' h => RArg.below h hv
  obtain ⟨⟨a1, c1, rfl, _, _⟩, ⟨a2, c2, rfl, hl2, hr2⟩⟩ := hm
  obtain ⟨a3, c3, rfl, hl3, _⟩ := hv
  have HC : Hid (∀ (i : Nat) (t : MCon), m.cons[i]? = some t → ∃ b off vv vc vr vl, a2 = some ⟨b, off, none⟩ ∧ b < w.heap.size ∧
    w.cell? ⟨b, off + i * 6, none⟩ = some (.int .i64 t.kind) ∧ w.cell? ⟨b, off + i * 6 + 1, none⟩ = some vv ∧ w.cell? ⟨b, off + i * 6 + 2, none⟩ = some vc ∧
    w.cell? ⟨b, off + i * 6 + 3, none⟩ = some (.int .i64 t.n) ∧ w.cell? ⟨b, off + i * 6 + 4, none⟩ = some vr ∧ w.cell? ⟨b, off + i * 6 + 5, none⟩ = some vl ∧ KArg w vv vc vr vl t) := hr2
  unfold maxLen at hl2 hl3
  obtain ⟨hl21, hl2⟩ := hl2
  obtain ⟨hl31, hl3⟩ := hl3
  obtain ⟨R, hR⟩ : ∃ R, filterA m con s = R := ⟨_, rfl⟩
  rw [hR]
  obtain ⟨er, her⟩ : ∃ er, checkL m [s] = er := ⟨_, rfl⟩
  obtain ⟨ec, hec⟩ : ∃ ec, conCheck m con = ec := ⟨_, rfl⟩
  have HER : Hid (checkL m [s] = er) := her
  have HEC : Hid (conCheck m con = ec) := hec
  have HE : Hid (R = if er = 0 then (if ec = 0 then (filterS (m.cons.getD con.toNat noCon) s, 0) else ([], ec)) else ([], er)) := by rw [← hR, ← her, ← hec]; rfl
  have HFA : Hid (failedA m s = if er = 0 then (failedS s, 0) else (false, er)) := by rw [← her]; rfl
  have HSA : Hid (scopeA m con = if ec = 0 then (scopeC (m.cons.getD con.toNat noCon), 0) else ([], ec)) := by rw [← hec]; rfl
  clear hR her hec hr2
  unfold modV
  go_enter Tryz.func59, Tryz.ntmps59
  go_wp2_with fail
  refine (sfailed_any m s (.slice a1 m.vars.length c1) (.slice a2 m.cons.length c2) _ _ ?_ ?_).mono ?_
  · exact HMA.out _ (below_alloc _ _)
  · exact HVA.out _ (below_alloc _ _)
  rintro e w1 ⟨rfl, hb1⟩
  have d0 : w1.cell? ⟨w.heap.size, 0, none⟩ = some (.slice a1 m.vars.length c1) := (hb1.cell (by simp)).trans (by simp)
  have d1 : w1.cell? ⟨w.heap.size, 1, none⟩ = some (.slice a2 m.cons.length c2) := (hb1.cell (by simp)).trans (by simp)
  have d2 : w1.cell? ⟨w.heap.size, 2, none⟩ = some (.int .i64 m.goal) := (hb1.cell (by simp)).trans (by simp)
  have d3 : w1.cell? ⟨w.heap.size, 3, none⟩ = some (.int .i64 m.var) := (hb1.cell (by simp)).trans (by simp)
  have HB1 : Hid (Below w.heap.size w w1) := (below_alloc _ _).trans (hb1.mono (by simp))
  have hs1 : w.heap.size < w1.heap.size := by have h := hb1.size; simp at h; omega
  clear hb1
  rw [HFA.out]
  by_cases he : er = 0
  · subst he
    rw [if_pos rfl]
    obtain ⟨o1, o2⟩ := (checkL_one m s).1 HER.out
    have HO1 : Hid (checkM m = 0) := o1
    have HO2 : Hid (checkV m.vars s = 0) := o2
    obtain ⟨F, HF⟩ : ∃ F, Hid (failedS s = F) := ⟨_, rfl⟩
    rw [HF.out]
    clear o1 o2
    go_wp2_with fail
    refine (mscope_any m con (.slice a1 m.vars.length c1) (.slice a2 m.cons.length c2) _ ?_).mono ?_
    · exact HMA.out _ (HB1.out.alloc HB1.out.size _)
    rintro e w2 ⟨sv, rfl, hsv, hb2⟩
    have dF : w2.cell? ⟨w1.heap.size, 0, none⟩ = some (.bool F) := (hb2.cell (by simp)).trans (by simp)
    have e1 : w2.cell? ⟨w.heap.size, 1, none⟩ = some (.slice a2 m.cons.length c2) := (hb2.cell (by simp; omega)).trans ((World.cell?_alloc_past _ _ _ hs1).trans d1)
    have HB2 : Hid (Below w.heap.size w w2) := (HB1.out.alloc HB1.out.size _).trans (hb2.mono (by simp; omega))
    have hs2 : w1.heap.size + 1 ≤ w2.heap.size := by simpa using hb2.size
    rw [HSA.out] at hsv ⊢
    clear hb2 d0 d1 d2 d3
    by_cases hc0 : ec = 0
    · subst hc0
      rw [if_pos rfl] at hsv ⊢
      obtain ⟨p1, p2, p3⟩ := conCheck_ok m con HEC.out
      obtain ⟨j, rfl⟩ : ∃ j : Nat, con = (j : Int) := ⟨con.toNat, by omega⟩
      have hjl : j < m.cons.length := by omega
      obtain ⟨c, hcc⟩ : ∃ c, m.cons[j]? = some c := ⟨m.cons[j], by simp [hjl]⟩
      have hgd : m.cons.getD ((j : Int)).toNat noCon = c := by rw [Int.toNat_natCast, List.getD_eq_getElem?_getD, hcc]; rfl
      rw [hgd] at hsv
      have HN : Hid (R = (filterS c s, 0)) := by show R = _; rw [HE.out]; simp only [eq_self, if_true, hgd]
      obtain ⟨b, off, vv, vc, vr, vl, ha, hb, f0, f1, f2, f3, f4, f5, hka⟩ := HC.out j c hcc
      subst ha
      have g0 := (HB2.out.cell (p := ⟨b, off + j * 6, none⟩) hb).trans f0
      have g1 := (HB2.out.cell (p := ⟨b, off + j * 6 + 1, none⟩) hb).trans f1
      have g2 := (HB2.out.cell (p := ⟨b, off + j * 6 + 2, none⟩) hb).trans f2
      have g3 := (HB2.out.cell (p := ⟨b, off + j * 6 + 3, none⟩) hb).trans f3
      have g4 := (HB2.out.cell (p := ⟨b, off + j * 6 + 4, none⟩) hb).trans f4
      have g5 := (HB2.out.cell (p := ⟨b, off + j * 6 + 5, none⟩) hb).trans f5
      have HKA : Hid (KArg w vv vc vr vl c) := hka
      have HSV : Hid (∀ w' : World, Below w2.heap.size w2 w' → IArg w' sv (scopeC c)) := fun w' h => IArg.below h hsv
      have HCE : Hid (conE m.vars.length c = 0) := con_ok m HO1.out j c hcc
      have HSI : Hid ((∀ v ∈ scopeC c, 0 ≤ v ∧ v < (m.vars.length : Int)) ∧ (c.kind = 10 → c.lits ≠ [])) := scope_in m HO1.out j c hcc
      obtain ⟨asv, csv, rfl, _, _⟩ := hsv
      obtain ⟨⟨q1, r1, rfl, _, _⟩, ⟨q2, r2, rfl, _, _⟩, ⟨q3, r3, rfl, _, _⟩, ⟨q4, r4, rfl, _, _⟩⟩ := hka
      obtain ⟨hn6, hr6⟩ := rows_short m s HO1.out HO2.out
      have HR6 : Hid (∀ r ∈ s, r.length ≤ 6) := hr6
      have HLM : Hid (s.length = m.vars.length) := ((checkV_ok _ _).1 HO2.out).1
      obtain ⟨W3, hW3⟩ : ∃ W3 : World, W3 = w2.alloc (.cells #[.slice asv (scopeC c).length csv] 39) := ⟨_, rfl⟩
      have HW3 : Hid (W3 = w2.alloc (.cells #[.slice asv (scopeC c).length csv] 39)) := hW3
      have hB3 : Below w2.heap.size w2 W3 := by rw [hW3]; exact below_alloc _ _
      have hsc3 : W3.cell? ⟨w2.heap.size, 0, none⟩ = some (.slice asv (scopeC c).length csv) := by rw [hW3]; simp
      have hs3 : w2.heap.size < W3.heap.size := by rw [hW3]; simp
      have k1 := (hB3.cell (p := ⟨w.heap.size, 1, none⟩) (by simp only; omega)).trans e1
      have k2 := (hB3.cell (p := ⟨w1.heap.size, 0, none⟩) (by simp only; omega)).trans dF
      have hb2 : b < w2.heap.size := Nat.lt_of_lt_of_le hb HB2.out.size
      have i0 := (hB3.cell (p := ⟨b, off + j * 6, none⟩) hb2).trans g0
      have i1 := (hB3.cell (p := ⟨b, off + j * 6 + 1, none⟩) hb2).trans g1
      have i2 := (hB3.cell (p := ⟨b, off + j * 6 + 2, none⟩) hb2).trans g2
      have i3 := (hB3.cell (p := ⟨b, off + j * 6 + 3, none⟩) hb2).trans g3
      have i4 := (hB3.cell (p := ⟨b, off + j * 6 + 4, none⟩) hb2).trans g4
      have i5 := (hB3.cell (p := ⟨b, off + j * 6 + 5, none⟩) hb2).trans g5
      have HB3 : Hid (Below w.heap.size w W3) := HB2.out.trans (hB3.mono (by omega))
      have l1 : w.heap.size < W3.heap.size := by omega
      have l2 : w1.heap.size < W3.heap.size := by omega
      have l3 : b < W3.heap.size := by omega
      have HSV3 : Hid (∀ w' : World, Below W3.heap.size W3 w' → IArg w' (.slice asv (scopeC c).length csv) (scopeC c)) := fun w' h => HSV.out _ (hB3.trans (h.mono hB3.size))
      have HKA3 : Hid (∀ w' : World, Below W3.heap.size W3 w' → KArg w' (.slice q1 c.vars.length r1) (.slice q2 c.consts.length r2) (.slice q3 c.rows.length r3) (.slice q4 c.lits.length r4) c) := fun w' h => KArg.below (HB3.out.trans (h.mono (by omega))) HKA.out
      have HVA3 : Hid (∀ w' : World, Below W3.heap.size W3 w' → RArg w' (.slice a3 s.length c3) s) := fun w' h => HVA.out _ (HB3.out.trans (h.mono (by omega)))
      have hmk := run_make_row' (P := Tryz.prog) 39 3 (.int .i64 0) 8 Tryz.underInts9 Tryz.infoInt9 rfl .i64 .i64 s.length (by omega) (by omega)
      have hmm := @run_makeMap Tryz.prog
      clear hW3 hcc hgd f0 f1 f2 f3 f4 f5 g0 g1 g2 g3 g4 g5 hr6 hB3 p1 p2 p3 HMA HVA HC HSV HKA HE HFA HSA hb hb2 e1 dF hs1 hs2
      go_wp2_with fail
      rw [← HW3.out]
      clear HW3
      go_cut [11] (fun p wx => ∃ B V M : Nat, p = .pointer (some ⟨B, 0, none⟩) ∧ (W3.heap.size ≤ B ∧ W3.heap.size ≤ V ∧ W3.heap.size ≤ M ∧ B ≠ V ∧ B ≠ M ∧ V ≠ M) ∧ wx.heap[B]? = some (trialObj c (.slice q1 c.vars.length r1) (.slice q2 c.consts.length r2) (.slice q3 c.rows.length r3) (.slice q4 c.lits.length r4) (.slice asv (scopeC c).length csv) (.slice a3 s.length c3) V s.length M) ∧
        wx.heap[V]? = some (.cells (madeCells #[.int .i64 0] s.length) 3) ∧ wx.heap[M]? = some (.map #[] 0) ∧ Below W3.heap.size W3 wx)
      case first =>
        go_region_held3 (fun w' => Below W3.heap.size W3 w' ∧ w'.cell? ⟨w.heap.size, 1, none⟩ = some (.slice (some ⟨b, off, none⟩) m.cons.length c2) ∧ w'.cell? ⟨w2.heap.size, 0, none⟩ = some (.slice asv (scopeC c).length csv) ∧
            w'.cell? ⟨b, off + j * 6, none⟩ = some (.int .i64 c.kind) ∧ w'.cell? ⟨b, off + j * 6 + 1, none⟩ = some (.slice q1 c.vars.length r1) ∧ w'.cell? ⟨b, off + j * 6 + 2, none⟩ = some (.slice q2 c.consts.length r2) ∧ w'.cell? ⟨b, off + j * 6 + 3, none⟩ = some (.int .i64 c.n) ∧ w'.cell? ⟨b, off + j * 6 + 4, none⟩ = some (.slice q3 c.rows.length r3) ∧ w'.cell? ⟨b, off + j * 6 + 5, none⟩ = some (.slice q4 c.lits.length r4))
          ((refine (fun (hB : Below W3.heap.size W3 _) => ⟨hB, (hB.cell (p := ⟨w.heap.size, 1, none⟩) l1).trans k1, (hB.cell (p := ⟨w2.heap.size, 0, none⟩) hs3).trans hsc3, (hB.cell (p := ⟨b, off + j * 6, none⟩) l3).trans i0, (hB.cell (p := ⟨b, off + j * 6 + 1, none⟩) l3).trans i1, (hB.cell (p := ⟨b, off + j * 6 + 2, none⟩) l3).trans i2, (hB.cell (p := ⟨b, off + j * 6 + 3, none⟩) l3).trans i3, (hB.cell (p := ⟨b, off + j * 6 + 4, none⟩) l3).trans i4, (hB.cell (p := ⟨b, off + j * 6 + 5, none⟩) l3).trans i5⟩ : Below W3.heap.size W3 _ → _) ?_; first | exact (Below.refl _ _).drew | exact (show Below W3.heap.size W3 _ ∧ _ ∧ _ ∧ _ ∧ _ ∧ _ ∧ _ ∧ _ ∧ _ by assumption).1.alloc ((show Below W3.heap.size W3 _ ∧ _ ∧ _ ∧ _ ∧ _ ∧ _ ∧ _ ∧ _ ∧ _ by assumption).1.size) _ | exact bel3 _ _ _ _ | exact (bel3 _ _ _ _).drew))
          (fail)
        all_goals (go_wp2_with fail; go_meet)
        all_goals first
          | exact ⟨_, W3.heap.size, W3.heap.size + 1, rfl, by omega, (bl3 _ _ _ _).2.2, (bl3 _ _ _ _).1, (bl3 _ _ _ _).2.1, (bel3 _ _ _ _).drew⟩
          | exact ⟨_, W3.heap.size, W3.heap.size + 1 + 1, rfl, by omega, (bl3 _ _ _ _).2.1, (bl3 _ _ _ _).1, (bl3 _ _ _ _).2.2, (bel3 _ _ _ _).drew⟩
          | exact ⟨_, W3.heap.size + 1, W3.heap.size, rfl, by omega, (bl3 _ _ _ _).2.2, (bl3 _ _ _ _).2.1, (bl3 _ _ _ _).1, (bel3 _ _ _ _).drew⟩
          | exact ⟨_, W3.heap.size + 1 + 1, W3.heap.size, rfl, by omega, (bl3 _ _ _ _).2.1, (bl3 _ _ _ _).2.2, (bl3 _ _ _ _).1, (bel3 _ _ _ _).drew⟩
          | exact ⟨_, W3.heap.size + 1, W3.heap.size + 1 + 1, rfl, by omega, (bl3 _ _ _ _).1, (bl3 _ _ _ _).2.1, (bl3 _ _ _ _).2.2, (bel3 _ _ _ _).drew⟩
          | exact ⟨_, W3.heap.size + 1 + 1, W3.heap.size + 1, rfl, by omega, (bl3 _ _ _ _).1, (bl3 _ _ _ _).2.2, (bl3 _ _ _ _).2.1, (bel3 _ _ _ _).drew⟩
      case rest =>
        obtain ⟨B, V, M, rfl, hne, hBh, hVh, hMh, hBx⟩ := hcut
        have hzl : (zerosOf s.length).length = s.length := by simp [zerosOf]
        have hT : TrialS W3.heap.size B V M c (.slice q1 c.vars.length r1) (.slice q2 c.consts.length r2) (.slice q3 c.rows.length r3) (.slice q4 c.lits.length r4) (.slice asv (scopeC c).length csv) (.slice a3 s.length c3) (scopeC c) s (zerosOf s.length) [] wc := by
          refine ⟨hne, by rw [hzl]; exact hBh, ⟨W3, Nat.le_refl _, ⟨HKA3.out _ (Below.refl _ _), HSV3.out _ (Below.refl _ _), HVA3.out _ (Below.refl _ _)⟩, hBx⟩, ?_, owns_none _ _ hMh⟩
          rw [hzl]
          refine ⟨by simp [zerosOf], Or.inr ⟨V, s.length, _, rfl, hne.2.1, hVh, Nat.le_refl _, by unfold maxLen; omega, ?_, ?_⟩⟩
          · have h := congrArg List.length (toList_madeCells_one (.int .i64 0) s.length)
            simp at h
            simpa using h
          · rw [toList_madeCells_one]
            simp [zerosOf]
        have HT : Hid (TrialS W3.heap.size B V M c (.slice q1 c.vars.length r1) (.slice q2 c.consts.length r2) (.slice q3 c.rows.length r3) (.slice q4 c.lits.length r4) (.slice asv (scopeC c).length csv) (.slice a3 s.length c3) (scopeC c) s (zerosOf s.length) [] wc) := hT
        have HBX : Hid (Below W3.heap.size W3 wc) := hBx
        have n2 := (hBx.cell (p := ⟨w1.heap.size, 0, none⟩) l2).trans k2
        have HNE : Hid (W3.heap.size ≤ wc.heap.size) := hBx.size
        have HSC : Hid (∀ v ∈ scopeC c, 0 ≤ v ∧ v < (s.length : Int)) := by rw [HLM.out]; exact HSI.out.1
        have HRB : Hid (∀ r ∈ s, ∀ x ∈ r, -50 ≤ x ∧ x ≤ 50) := row_bounds m s HO1.out HO2.out
        have HCS : Hid (conE s.length c = 0) := by rw [HLM.out]; exact HCE.out
        have HSL : Hid ((scopeC c).length ≤ 8) := by
          obtain ⟨hn4, hl4, _, _⟩ := many_not c (con_facts _ _ HCE.out).2.1
          have h1 := compI_len (sortI (scopeL c))
          rw [sortI_len] at h1
          show (compI (sortI (scopeL c))).length ≤ 8
          have h2 : (scopeL c).length = c.vars.length + c.lits.length := by simp [scopeL]
          omega
        -- the end, whatever was tried
        have HEND : Hid (∀ (vals : List Int) (l : List (Int × Int)) (w5 : World), TrialS W3.heap.size B V M c (.slice q1 c.vars.length r1) (.slice q2 c.consts.length r2) (.slice q3 c.rows.length r3) (.slice q4 c.lits.length r4) (.slice asv (scopeC c).length csv) (.slice a3 s.length c3) (scopeC c) s vals l w5 →
            vals.length = s.length → (∀ x ∈ vals, -50 ≤ x ∧ x ≤ 50) → (∀ q ∈ l, okPair q) → (failedS s = false → l = metAll c s ∧ ((scopeC c).length = 0 → vals = zerosOf s.length)) → Below W3.heap.size W3 w5 →
            Calls Tryz.prog 53 #[.slice a3 s.length c3, .func (.func 101) #[] #[.pointer (some ⟨w1.heap.size, 0, none⟩), .pointer (some ⟨w2.heap.size, 0, none⟩), .pointer (some ⟨B, 0, none⟩)]] w5 fun e w' => ∃ x, e = .returned x ∧ RArg w' x (filterS c s) ∧ Below w.heap.size w w') := by
          intro vals l w5 hT5 hvl hvb hlo hst hB5
          refine (sift_any 101 #[.pointer (some ⟨w1.heap.size, 0, none⟩), .pointer (some ⟨w2.heap.size, 0, none⟩), .pointer (some ⟨B, 0, none⟩)] s (staysB c s) _ w5 (HVA3.out _ hB5) ⟨enters_stays, ?_⟩ hn6 HR6.out).mono ?_
          · intro k r z w' hk hz hb'
            have hB' : Below W3.heap.size W3 w' := hB5.trans (hb'.mono hB5.size)
            have h := stays_any W3.heap.size B V M c _ _ _ _ _ _ (scopeC c) s vals l F w1.heap.size w2.heap.size k z w' (hT5.below hb') ((hB'.cell (p := ⟨w1.heap.size, 0, none⟩) l2).trans k2) ((hB'.cell (p := ⟨w2.heap.size, 0, none⟩) hs3).trans hsc3) (by rw [hvl]; exact HCS.out) hvb hlo
              (by have := (List.getElem?_eq_some_iff.1 hk).1; omega) (HRB.out r (List.mem_of_getElem? hk) z hz)
            rw [← HF.out, staysT_eq c s vals l hst] at h
            exact h
          · rintro e w' ⟨x, rfl, hx, hb⟩
            exact ⟨x, rfl, hx, HB3.out.trans ((hB5.trans (hb.mono hB5.size)).mono (by omega))⟩
        clear hBh hVh hMh hBx hT hmk hmm hzl k1 i0 i1 i2 i3 i4 i5 hsc3
        cases F
        · go_wp2_with fail
          have HFR := from_any W3.heap.size B V M c (.slice q1 c.vars.length r1) (.slice q2 c.consts.length r2) (.slice q3 c.rows.length r3) (.slice q4 c.lits.length r4) (.slice asv (scopeC c).length csv) (.slice a3 s.length c3) (scopeC c) s HSC.out HCS.out hn6 (fun r hr => ⟨HR6.out r hr, HRB.out r hr⟩) HSL.out (scopeC c) 0 (zerosOf s.length) [] wc rfl (Nat.zero_le _) (by simp [zerosOf]) (zeros_bound _) (by
            have h1 := HSL.out
            have h2 : 6 ^ (scopeC c).length ≤ 6 ^ 8 := Nat.pow_le_pow_right (by omega) h1
            have h3 : (scopeC c).length * 6 ^ (scopeC c).length ≤ 8 * 6 ^ 8 := Nat.mul_le_mul h1 h2
            simp only [List.length_nil, Nat.zero_add]
            omega) HT.out
          refine (show Calls Tryz.prog 100 #[.pointer (some ⟨B, 0, none⟩), .int .i64 0] wc _ from HFR).mono ?_
          rintro e w5 ⟨rfl, vals', hT5, hvl, hvb, hag, hbN⟩
          have HB5 : Hid (Below W3.heap.size W3 w5) := HBX.out.trans hbN
          rw [List.nil_append] at hT5
          have HS := HEND.out vals' (metAll c s) w5 hT5 hvl hvb (met_ok c s HRB.out hn6 HSC.out) (fun _ => ⟨rfl, fun h0 => by
            have h1 : scopeC c = [] := List.eq_nil_of_length_eq_zero h0
            rw [h1] at hag
            exact (List.ext_getElem? fun i => hag.2 i (fun v hv => by cases hv)).symm⟩) HB5.out
          have HSH : Hid (Calls Tryz.prog 53 #[.slice a3 s.length c3, .func (.func 101) #[] #[.pointer (some ⟨w1.heap.size, 0, none⟩), .pointer (some ⟨w2.heap.size, 0, none⟩), .pointer (some ⟨B, 0, none⟩)]] w5 fun e w' => ∃ x, e = .returned x ∧ RArg w' x (filterS c s) ∧ Below w.heap.size w w') := HS
          clear HS hT5 hvl hvb hag hbN HFR
          go_wp2_with fail
          refine HSH.out.mono ?_
          rintro e w6 ⟨x, rfl, hx, hb6⟩
          have HX : Hid (RArg w6 x (filterS c s)) := hx
          obtain ⟨ax, cx, rfl, _, _⟩ := hx
          go_wp2
          go_ret2
          rw [HN.out]
          exact ⟨_, rfl, HX.out, hb6⟩
        · have HSH : Hid (Calls Tryz.prog 53 #[.slice a3 s.length c3, .func (.func 101) #[] #[.pointer (some ⟨w1.heap.size, 0, none⟩), .pointer (some ⟨w2.heap.size, 0, none⟩), .pointer (some ⟨B, 0, none⟩)]] wc fun e w' => ∃ x, e = .returned x ∧ RArg w' x (filterS c s) ∧ Below w.heap.size w w') :=
            HEND.out (zerosOf s.length) [] wc HT.out (by simp [zerosOf]) (zeros_bound _) (fun q hq => by cases hq) (fun h => by rw [HF.out] at h; cases h) HBX.out
          go_wp2_with fail
          refine HSH.out.mono ?_
          rintro e w6 ⟨x, rfl, hx, hb6⟩
          have HX : Hid (RArg w6 x (filterS c s)) := hx
          obtain ⟨ax, cx, rfl, _, _⟩ := hx
          go_wp2
          go_ret2
          rw [HN.out]
          exact ⟨_, rfl, HX.out, hb6⟩
    · have HN : Hid (R = ([], ec)) := by show R = _; rw [HE.out]; simp only [eq_self, if_true, hc0, if_false]
      have he2 : (ec != 0) = true := by simpa using hc0
      rw [if_neg hc0] at hsv ⊢
      obtain ⟨asv, csv, rfl, _, _⟩ := hsv
      clear hc0
      go_wp2
      go_ret2
      rw [HN.out]
      exact ⟨_, rfl, ⟨_, _, rfl, ⟨Nat.le_refl _, Nat.zero_le _⟩, fun i r h => by simp at h⟩, HB2.out.alloc HB2.out.size _⟩
  · have HN : Hid (R = ([], er)) := by rw [HE.out, if_neg he]; rfl
    have he2 : (er != 0) = true := by simpa using he
    rw [if_neg he]
    clear he
    go_wp2
    go_ret2
    rw [HN.out]
    exact ⟨_, rfl, ⟨_, _, rfl, ⟨Nat.le_refl _, Nat.zero_le _⟩, fun i r h => by simp at h⟩, HB1.out.alloc HB1.out.size _⟩
end Go.Proofs.YtggkbhafbhhhhadGreat
