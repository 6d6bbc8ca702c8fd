/-
  WALK: package filter: from.
-/
import Derived.Test.YtggkbhafbhhhhadGreatFilB
namespace Go.Proofs.YtggkbhafbhhhhadGreat
open Go.RowKit Go.Maps

theorem reach_count (s : Sto) (h6 : ∀ r ∈ s, r.length ≤ 6) : ∀ (r vals : List Int), (reach s r vals).length ≤ 6 ^ r.length
  | [], vals => by simp [reach]
  | v :: r, vals => by
    unfold reach
    have hrow : (s.getD v.toNat []).length ≤ 6 := by
      rw [List.getD_eq_getElem?_getD]
      cases hq : s[v.toNat]? with
      | none => simp
      | some q => exact h6 q (List.mem_of_getElem? hq)
    have key : ∀ q : List Int, (q.flatMap fun x => reach s r (vals.set v.toNat x)).length ≤ q.length * 6 ^ r.length := by
      intro q
      induction q with
      | nil => simp
      | cons a q ih =>
        rw [List.flatMap_cons, List.length_append, List.length_cons]
        have := reach_count s h6 r (vals.set v.toNat a)
        rw [Nat.add_mul]
        omega
    have h1 := key (s.getD v.toNat [])
    have h2 : (s.getD v.toNat []).length * 6 ^ r.length ≤ 6 * 6 ^ r.length := Nat.mul_le_mul_right _ hrow
    rw [List.length_cons, Nat.pow_succ]
    omega
theorem metK_count (c : MCon) (scope : List Int) (us : List (List Int)) : (metK c scope us).length ≤ scope.length * us.length := by
  unfold metK
  induction us with
  | nil => simp
  | cons u us ih =>
    rw [List.flatMap_cons, List.length_append, List.length_cons, Nat.mul_add]
    have : (if holdsC c u then keysOf scope u else []).length ≤ scope.length := by
      split
      · simp [keysOf]
      · simp
    omega
theorem metK_append (c : MCon) (scope : List Int) (a b : List (List Int)) : metK c scope (a ++ b) = metK c scope a ++ metK c scope b := by
  unfold metK; rw [List.flatMap_append]
/-- What has been reached when so many values of a row are through. -/
def reachN (s : Sto) (v : Int) (r vals row : List Int) (j : Nat) : List (List Int) := (row.take j).flatMap fun x => reach s r (vals.set v.toNat x)
theorem reachN_next (s : Sto) (v : Int) (r vals row : List Int) (j : Nat) (x : Int) (h : row[j]? = some x) : reachN s v r vals row (j + 1) = reachN s v r vals row j ++ reach s r (vals.set v.toNat x) := by
  unfold reachN; rw [List.take_add_one, h, List.flatMap_append]; simp
theorem bounds_set (vals : List Int) (k : Nat) (x : Int) (h : ∀ y ∈ vals, -50 ≤ y ∧ y ≤ 50) (hx : -50 ≤ x ∧ x ≤ 50) : ∀ y ∈ vals.set k x, -50 ≤ y ∧ y ≤ 50 := by
  intro y hy
  rcases List.mem_or_eq_of_mem_set hy with h1 | h1
  · exact h y h1
  · rw [h1]; exact hx

set_option maxHeartbeats 3200000 in
set_option maxRecDepth 100000 in
theorem from_any (N B V M : Nat) (c : MCon) (vv vc vr vl sv stv : Value) (scope : List Int) (s : Sto)
    (hsc : ∀ v ∈ scope, 0 ≤ v ∧ v < s.length) (hce : conE s.length c = 0) (hs6 : s.length ≤ 6) (hrow : ∀ r ∈ s, r.length ≤ 6 ∧ ∀ x ∈ r, -50 ≤ x ∧ x ≤ 50) (hn8 : scope.length ≤ 8) :
    ∀ (rest : List Int) (k : Nat) (vals : List Int) (l : List (Int × Int)) (w : World), scope.drop k = rest → k ≤ scope.length → vals.length = s.length → (∀ x ∈ vals, -50 ≤ x ∧ x ≤ 50) → l.length + scope.length * 6 ^ rest.length ≤ 1000000000 →
      TrialS N B V M c vv vc vr vl sv stv scope s vals l w →
      Calls Tryz.prog 100 #[.pointer (some ⟨B, 0, none⟩), .int .i64 k] w fun e w' => e = .returned (.tuple #[]) ∧
        ∃ vals', TrialS N B V M c vv vc vr vl sv stv scope s vals' (l ++ metK c scope (reach s rest vals)) w' ∧ vals'.length = s.length ∧ (∀ x ∈ vals', -50 ≤ x ∧ x ≤ 50) ∧ Agree rest vals vals' ∧ Below N w w' := by
  have HSC : Hid (∀ v ∈ scope, 0 ≤ v ∧ v < (s.length : Int)) := hsc
  have HCE : Hid (conE s.length c = 0) := hce
  have HROW : Hid (∀ r ∈ s, r.length ≤ 6 ∧ ∀ x ∈ r, -50 ≤ x ∧ x ≤ 50) := hrow
  clear hsc hce hrow
  intro rest
  induction rest with
  | nil =>
    intro k vals l w hdr hk hvl hvb hbud hT
    have hks : k = scope.length := by
      have := congrArg List.length hdr
      simp at this
      omega
    subst hks
    obtain ⟨asv, csv, hsv, _, _⟩ := hT.parts.2.1
    subst hsv
    have HK : Hid (∀ w' : World, Below w.heap.size w w' → KArg w' vv vc vr vl c) := fun w' h => KArg.below h hT.parts.1
    have HVA : Hid (∀ w' : World, Below w.heap.size w w' → IArg w' (.slice (some ⟨V, 0, none⟩) vals.length vals.length) vals) := fun w' h => IArg.below h hT.vals_arg
    obtain ⟨⟨q1, r1, h1, _, _⟩, ⟨q2, r2, h2, _, _⟩, ⟨q3, r3, h3, _, _⟩, ⟨q4, r4, h4, _, _⟩⟩ := hT.parts.1
    subst h1; subst h2; subst h3; subst h4
    have b0 := bk_cell hT.2.1 0 _ rfl
    have b1 := bk_cell hT.2.1 1 _ rfl
    have b2 := bk_cell hT.2.1 2 _ rfl
    have b3 := bk_cell hT.2.1 3 _ rfl
    have b4 := bk_cell hT.2.1 4 _ rfl
    have b5 := bk_cell hT.2.1 5 _ rfl
    have b6 := bk_cell hT.2.1 6 _ rfl
    have b8 := bk_cell hT.2.1 8 _ rfl
    have hBl := hT.lts.1
    have HT : Hid (TrialS N B V M c (.slice q1 c.vars.length r1) (.slice q2 c.consts.length r2) (.slice q3 c.rows.length r3) (.slice q4 c.lits.length r4) (.slice asv scope.length csv) stv scope s vals l w) := hT
    have HVB : Hid (∀ x ∈ vals, -50 ≤ x ∧ x ≤ 50) := hvb
    have HVL : Hid (vals.length = s.length) := hvl
    have HNL : Hid (N ≤ w.heap.size) := hT.lts.2.2.2
    have HME : Hid (metK c scope (reach s [] vals) = if holdsC c vals then keysOf scope vals else []) := by show _ = _; simp [metK, reach]
    have hbud2 : l.length + scope.length ≤ 1000000000 := by simpa using hbud
    have hv6 : vals.length ≤ 6 := by omega
    clear hT hvb hdr hvl hbud
    go_enter Tryz.func100, Tryz.ntmps100
    go_wp2_with fail
    go_region_held3 (fun w' => Below w.heap.size w w' ∧ w'.cell? ⟨B, 0, none⟩ = some (.int .i64 c.kind) ∧ w'.cell? ⟨B, 1, none⟩ = some (.slice q1 c.vars.length r1) ∧ w'.cell? ⟨B, 2, none⟩ = some (.slice q2 c.consts.length r2) ∧ w'.cell? ⟨B, 3, none⟩ = some (.int .i64 c.n) ∧ w'.cell? ⟨B, 4, none⟩ = some (.slice q3 c.rows.length r3) ∧ w'.cell? ⟨B, 5, none⟩ = some (.slice q4 c.lits.length r4) ∧ w'.cell? ⟨B, 8, none⟩ = some (.slice (some ⟨V, 0, none⟩) vals.length vals.length))
      ((refine (fun (hB : Below w.heap.size w _) => ⟨hB, (hB.cell (p := ⟨B, 0, none⟩) hBl).trans b0, (hB.cell (p := ⟨B, 1, none⟩) hBl).trans b1, (hB.cell (p := ⟨B, 2, none⟩) hBl).trans b2, (hB.cell (p := ⟨B, 3, none⟩) hBl).trans b3, (hB.cell (p := ⟨B, 4, none⟩) hBl).trans b4, (hB.cell (p := ⟨B, 5, none⟩) hBl).trans b5, (hB.cell (p := ⟨B, 8, none⟩) hBl).trans b8⟩ : Below w.heap.size w _ → _) ?_; first | exact (Below.refl _ _).drew | exact hbq))
      (first
        | (go_at_call 44; refine (holds_any c vals _ _ _ _ _ _ (HK.out _ (Below.refl _ _).drew) (HVA.out _ (Below.refl _ _).drew) (by rw [HVL.out]; exact HCE.out) HVB.out).mono ?_; rintro e w1 ⟨rfl, hbr⟩; have hbq : Below w.heap.size w w1 := ⟨hbr.os, hbr.tape, hbr.output, hbr.size, hbr.block⟩))
    have HT1 : Hid (TrialS N B V M c (.slice q1 c.vars.length r1) (.slice q2 c.consts.length r2) (.slice q3 c.rows.length r3) (.slice q4 c.lits.length r4) (.slice asv scope.length csv) stv scope s vals l w1) := HT.out.below hbq
    have hbN : Below N w w1 := hbq.mono HNL.out
    clear hbr hbq b0 b1 b2 b3 b4 b5 b6 b8 hBl
    cases hq : holdsC c vals
    · rw [hq] at HME
      go_wp2
      (try simp only [Exit.inBlock, Exit.then])
      refine bodyPost_ret (results_none rfl _ _ _) rfl ?_
      refine ⟨rfl, vals, ?_, HVL.out, HVB.out, Agree.refl _ _, hbN⟩
      rw [HME.out]
      simpa using HT1.out
    · rw [hq] at HME
      go_wp2_with fail
      refine (meet_any N B V M c _ _ _ _ _ stv scope s vals l w1 HT1.out (by rw [HVL.out]; exact HSC.out) HVB.out hn8 hv6 hbud2).mono ?_
      rintro e w2 ⟨rfl, hT2, hb2⟩
      have HT2 : Hid (TrialS N B V M c (.slice q1 c.vars.length r1) (.slice q2 c.consts.length r2) (.slice q3 c.rows.length r3) (.slice q4 c.lits.length r4) (.slice asv scope.length csv) stv scope s vals (l ++ keysOf scope vals) w2) := hT2
      clear hT2
      go_wp2
      (try simp only [Exit.inBlock, Exit.then])
      refine bodyPost_ret (results_none rfl _ _ _) rfl ?_
      refine ⟨rfl, vals, ?_, HVL.out, HVB.out, Agree.refl _ _, hbN.trans hb2⟩
      rw [HME.out]
      exact HT2.out
  | cons v rest ih =>
    intro k vals l w hdr hk hvl hvb hbud hT
    have hkl : k < scope.length := by
      have := congrArg List.length hdr
      simp at this
      omega
    have hkv : scope[k]? = some v := by
      have h := congrArg (fun q : List Int => q[0]?) hdr
      simpa using h
    have hdr2 : scope.drop (k + 1) = rest := by
      have h := congrArg List.tail hdr
      simpa using h
    obtain ⟨hv0, hv1⟩ := HSC.out v (List.mem_of_getElem? hkv)
    obtain ⟨j, rfl⟩ : ∃ j : Nat, v = (j : Int) := ⟨v.toNat, by omega⟩
    have hjs : j < s.length := by omega
    obtain ⟨row, hrw⟩ : ∃ row, s[j]? = some row := ⟨s[j], by simp [hjs]⟩
    obtain ⟨hr6, hrb⟩ := HROW.out row (List.mem_of_getElem? hrw)
    obtain ⟨⟨_, _⟩, ⟨asv, csv, hsv, hms, hscell⟩, ⟨ast, cst, hst, hmt, hstcell⟩⟩ := hT.parts
    subst hsv; subst hst
    obtain ⟨bs, os, has, hbs, e0⟩ := hscell k _ hkv
    subst has
    obtain ⟨bt, ot, xt, hat, hbt, e1, hxt⟩ := hstcell j _ hrw
    subst hat
    have HXT : Hid (IArg w xt row) := hxt
    obtain ⟨ar, cr, rfl, hmr, hrc⟩ := hxt
    unfold maxLen at hms hmt hmr
    obtain ⟨hms1, hms⟩ := hms
    obtain ⟨hmt1, hmt⟩ := hmt
    obtain ⟨hmr1, hmr⟩ := hmr
    have b6 := bk_cell hT.2.1 6 _ rfl
    have b7 := bk_cell hT.2.1 7 _ rfl
    have HT : Hid (TrialS N B V M c vv vc vr vl (.slice (some ⟨bs, os, none⟩) scope.length csv) (.slice (some ⟨bt, ot, none⟩) s.length cst) scope s vals l w) := hT
    have HVB : Hid (∀ x ∈ vals, -50 ≤ x ∧ x ≤ 50) := hvb
    have HVL : Hid (vals.length = s.length) := hvl
    have HRB : Hid (∀ x ∈ row, -50 ≤ x ∧ x ≤ 50) := hrb
    have HRW : Hid (s[j]? = some row) := hrw
    have HOR : Hid (∀ w' : World, Below N w w' → IArg w' (.slice ar row.length cr) row) := by
      obtain ⟨_, _, ⟨w0, g1, ⟨_, _, g2⟩, g3⟩, _, _⟩ := hT
      obtain ⟨ast', cst', hst', _, hstc'⟩ := g2
      obtain ⟨bt', ot', xt', hat', hbt', e1', hxt'⟩ := hstc' j _ hrw
      injection hst' with hq
      rw [← hq] at hat'
      cases hat'
      have e2 := (g3.cell (p := ⟨bt, ot + j, none⟩) hbt').trans e1'
      rw [e1] at e2
      cases e2
      intro w' h
      exact IArg.below (g3.trans (h.mono g1)) hxt'
    obtain ⟨X, hX⟩ : ∃ X, scope.length * 6 ^ rest.length = X := ⟨_, rfl⟩
    have hbud2 : l.length + 6 * X ≤ 1000000000 := by
      rw [List.length_cons, Nat.pow_succ] at hbud
      rw [← hX]
      have : scope.length * (6 ^ rest.length * 6) = 6 * (scope.length * 6 ^ rest.length) := by rw [Nat.mul_comm (6 ^ rest.length) 6, ← Nat.mul_assoc, Nat.mul_comm scope.length 6, Nat.mul_assoc]
      omega
    have HRN : Hid (∀ jj, jj ≤ row.length → (metK c scope (reachN s (j : Int) rest vals row jj)).length ≤ jj * X) := by
      intro jj hjj
      refine Nat.le_trans (metK_count c scope _) ?_
      have h1 : (reachN s (j : Int) rest vals row jj).length ≤ jj * 6 ^ rest.length := by
        have key : ∀ q : List Int, (q.flatMap fun x => reach s rest (vals.set ((j : Int)).toNat x)).length ≤ q.length * 6 ^ rest.length := by
          intro q
          induction q with
          | nil => simp
          | cons a q ih2 =>
            rw [List.flatMap_cons, List.length_append, List.length_cons]
            have := reach_count s (fun r hr => (HROW.out r hr).1) rest (vals.set ((j : Int)).toNat a)
            rw [Nat.add_mul]
            omega
        unfold reachN
        have h2 := key (row.take jj)
        rw [List.length_take, Nat.min_eq_left hjj] at h2
        exact h2
      rw [← hX]
      calc scope.length * (reachN s (j : Int) rest vals row jj).length ≤ scope.length * (jj * 6 ^ rest.length) := Nat.mul_le_mul_left _ h1
        _ = jj * (scope.length * 6 ^ rest.length) := by rw [← Nat.mul_assoc, Nat.mul_comm scope.length jj, Nat.mul_assoc]
    have HEND : Hid (reachN s (j : Int) rest vals row row.length = reach s ((j : Int) :: rest) vals) := by
      show _ = _
      unfold reachN
      rw [List.take_length]
      conv => rhs; unfold reach
      rw [Int.toNat_natCast, List.getD_eq_getElem?_getD, hrw]; rfl
    have HIH : Hid (∀ (vals : List Int) (l : List (Int × Int)) (w : World), vals.length = s.length → (∀ x ∈ vals, -50 ≤ x ∧ x ≤ 50) → l.length + X ≤ 1000000000 →
      TrialS N B V M c vv vc vr vl (.slice (some ⟨bs, os, none⟩) scope.length csv) (.slice (some ⟨bt, ot, none⟩) s.length cst) scope s vals l w →
      Calls Tryz.prog 100 #[.pointer (some ⟨B, 0, none⟩), .int .i64 ((k : Int) + 1)] w fun e w' => e = .returned (.tuple #[]) ∧
        ∃ vals', TrialS N B V M c vv vc vr vl (.slice (some ⟨bs, os, none⟩) scope.length csv) (.slice (some ⟨bt, ot, none⟩) s.length cst) scope s vals' (l ++ metK c scope (reach s rest vals)) w' ∧ vals'.length = s.length ∧ (∀ x ∈ vals', -50 ≤ x ∧ x ≤ 50) ∧ Agree rest vals vals' ∧ Below N w w') := by
      intro vals1 l1 w1 a1 a2 a3 a4
      exact ih (k + 1) vals1 l1 w1 hdr2 (by omega) a1 a2 (by rw [hX]; exact a3) a4
    have g0 : ((k : Int) == (scope.length : Int)) = false := by simp; omega
    have hlt8 : k < 8 := by omega
    clear hT hvb hdr hvl hbud hrb hrw hrc hscell hstcell ih hX hdr2 hkv hv0 hv1 HXT
    go_enter Tryz.func100, Tryz.ntmps100
    go_wp2_with fail
    clear b6 b7 e0 e1
    go_loopw [40] (fun i wr => ∃ (jj : Nat) (vals' : List Int), jj ≤ row.length ∧ i = .int .i64 jj ∧ TrialS N B V M c vv vc vr vl (.slice (some ⟨bs, os, none⟩) scope.length csv) (.slice (some ⟨bt, ot, none⟩) s.length cst) scope s vals' (l ++ metK c scope (reachN s (j : Int) rest vals row jj)) wr ∧ Hid (vals'.length = s.length ∧ (∀ x ∈ vals', -50 ≤ x ∧ x ≤ 50) ∧ Agree ((j : Int) :: rest) vals vals') ∧ Below N w wr) (fun i _ => row.length - (intOf i).toNat)
    case atStart => exact ⟨0, vals, by omega, rfl, by simpa [reachN, metK] using HT.out, ⟨HVL.out, HVB.out, Agree.refl _ _⟩, Below.refl _ _⟩
    case round =>
      obtain ⟨jj, vals', hjj, rfl, hTr, hH, hbw⟩ := hrel
      have HTR : Hid (TrialS N B V M c vv vc vr vl (.slice (some ⟨bs, os, none⟩) scope.length csv) (.slice (some ⟨bt, ot, none⟩) s.length cst) scope s vals' (l ++ metK c scope (reachN s (j : Int) rest vals row jj)) wr) := hTr
      have HBW : Hid (Below N w wr) := hbw
      clear hTr hbw
      by_cases hlt : jj < row.length
      · obtain ⟨x, hx⟩ : ∃ x, row[jj]? = some x := ⟨row[jj], by simp [hlt]⟩
        have hxb := HRB.out x (List.mem_of_getElem? hx)
        obtain ⟨a', c', hva, _, hrc⟩ := HOR.out _ HBW.out
        obtain ⟨b2, o2, hax, hb2, e2⟩ := hrc jj _ hx
        have har : ar = some ⟨b2, o2, none⟩ := by injection hva with e1; exact e1.trans hax
        subst har
        have c8 := bk_cell HTR.out.2.1 8 _ rfl
        have HOW := HTR.out.2.2.2.1
        have hjv : j < vals'.length := by rw [hH.out.1]; exact hjs
        obtain ⟨y, hy⟩ : ∃ y, vals'[j]? = some y := ⟨vals'[j], by simp [hjv]⟩
        have cv : wr.cell? ⟨V, j, none⟩ = some (.int .i64 y) := by rw [HOW.cellAt j (by omega), List.getElem?_map, hy]; rfl
        have zv := HOW.frozenAt j
        have HSET := HTR.out.set j x
        have HST : Hid (TrialS N B V M c vv vc vr vl (.slice (some ⟨bs, os, none⟩) scope.length csv) (.slice (some ⟨bt, ot, none⟩) s.length cst) scope s (vals'.set j x) (l ++ metK c scope (reachN s (j : Int) rest vals row jj)) (wr.setCell ⟨V, j, none⟩ (.int .i64 x))) := HSET.1
        have HSB : Hid (Below N w (wr.setCell ⟨V, j, none⟩ (.int .i64 x))) := HBW.out.trans HSET.2
        have HV1 : Hid ((vals'.set j x).length = s.length) := by show _ = _; rw [List.length_set]; exact hH.out.1
        have HV2 : Hid (∀ y ∈ vals'.set j x, -50 ≤ y ∧ y ≤ 50) := bounds_set _ _ _ hH.out.2.1 hxb
        have hbud3 : (l ++ metK c scope (reachN s (j : Int) rest vals row jj)).length + X ≤ 1000000000 := by
          have h1 := HRN.out jj hjj
          have h2 : jj * X ≤ 5 * X := Nat.mul_le_mul_right _ (by omega)
          rw [List.length_append]
          omega
        have HRS : Hid (reach s rest (vals'.set j x) = reach s rest (vals.set ((j : Int)).toNat x)) := by
          have h := (hH.out.2.2).set x
          exact (reach_same s rest _ _ h).symm
        have HNX : Hid (metK c scope (reachN s (j : Int) rest vals row (jj + 1)) = metK c scope (reachN s (j : Int) rest vals row jj) ++ metK c scope (reach s rest (vals'.set j x))) := by
          show _ = _
          rw [reachN_next s _ rest vals row jj x hx, metK_append, HRS.out]
        have HAG : Hid (Agree ((j : Int) :: rest) vals (vals'.set j x)) := (hH.out.2.2).trans (Agree.of_set rest vals' (j : Int) x)
        clear hx hy hva hrc hax HOW HSET hH hxb
        go_wp2_with fail
        refine (HIH.out _ _ _ HV1.out HV2.out hbud3 HST.out).mono ?_
        rintro e w2 ⟨rfl, v2, hT2, hl2, hb2', hag2, hbN2⟩
        have HT2 : Hid (TrialS N B V M c vv vc vr vl (.slice (some ⟨bs, os, none⟩) scope.length csv) (.slice (some ⟨bt, ot, none⟩) s.length cst) scope s v2 (l ++ metK c scope (reachN s (j : Int) rest vals row (jj + 1))) w2) := by
          rw [HNX.out, ← List.append_assoc]; exact hT2
        have HH2 : Hid (v2.length = s.length ∧ (∀ x ∈ v2, -50 ≤ x ∧ x ≤ 50) ∧ Agree ((j : Int) :: rest) vals v2) := ⟨hl2, hb2', HAG.out.trans (Agree.cons _ hag2)⟩
        have HB2 : Hid (Below N w w2) := HSB.out.trans hbN2
        clear hT2 hl2 hb2' hag2 hbN2 hbud3
        go_wp2
        go_roundw
        case rel => exact ⟨jj + 1, v2, by omega, by go_num, HT2.out, HH2, HB2.out⟩
        case measure => simp [intOf]; omega
      · have hje : jj = row.length := by omega
        have HF : Hid (TrialS N B V M c vv vc vr vl (.slice (some ⟨bs, os, none⟩) scope.length csv) (.slice (some ⟨bt, ot, none⟩) s.length cst) scope s vals' (l ++ metK c scope (reach s ((j : Int) :: rest) vals)) wr) := by
          have h := HTR.out
          rw [hje, HEND.out] at h
          exact h
        clear hje
        go_wp2
        go_end0
        exact ⟨rfl, vals', HF.out, hH.out.1, hH.out.2.1, hH.out.2.2, HBW.out⟩
end Go.Proofs.YtggkbhafbhhhhadGreat
