/-
  PART 6 of what the proof leans on (FenF, FenG, FenH, ExpB, FilA, FilB, FilC, StoE).
-/
import Derived.Test.YtddaebbllhiidaeGreatDoorPartE
import Derived.Deep.RegionHeld3
import Derived.Deep.RegionLaw
import Derived.Deep.OwnRows
import Derived.Deep.Onto
import Derived.Laws.EntriesVeiled
import Derived.Deep.CutBlock
import Derived.Deep.DeepCutAuto
import Derived.Maps.OwnSet
import Derived.Maps.AppendAt
import Derived.DeepKeys4
import Derived.WalkKit
/-
  WALK: package fence: the closure that goes through a constraint's values.
-/
namespace Go.Proofs.YtddaebbllhiidaeGreatDoor
open Go.RowKit

theorem Tryz.infoPart : (Tryz.prog.info? 97).map (fun i => (i.zero, i.size, i.bytes)) = some (some (.int .u64 0), 1, 8) := by kernel_rfl
theorem Tryz.underParts : Tryz.prog.underlying 94 = some (.slice 97) := by kernel_rfl
theorem part_laid (w : World) (z : Nat) : ∀ (j : Nat) (u : Value), [Value.int .u64 (z : Int)][j]? = some u → (w.alloc (.cells #[.int .u64 (z : Int)] 97)).cell? ((⟨w.heap.size, 0, none⟩ : Addr).add j) = some u := by
  intro j u hj
  match j, hj with
  | 0, hj => simp at hj; subst hj; simp [Addr.add]

set_option maxHeartbeats 3200000 in
set_option maxRecDepth 100000 in
theorem pts_end (N bs bm bc : Nat) (m : Mod) (con : Nat) (c : MCon) (vs cs sv : Value) (scope vals : List Int) (a : Nat) (out : List Nat) (w : World)
    (hc : m.cons[con]? = some c) (hce : conE vals.length c = 0) (hvb : ∀ x ∈ vals, -50 ≤ x ∧ x ≤ 50) (hbud : out.length ≤ 10000000)
    (hT : PtsS N bs bm bc m con vs cs sv scope vals out w) :
    Calls Tryz.prog 99 #[.int .i64 (scope.length : Int), .int .u64 (a : Int), .pointer (some ⟨bs, 0, none⟩), .pointer (some ⟨bm, 0, none⟩), .pointer (some ⟨bc, 0, none⟩), .pointer (some ⟨N + 1, 0, none⟩), .pointer (some ⟨N + 2, 0, none⟩), .pointer (some ⟨N + 3, 0, none⟩)] w fun e w' => e = .returned (.tuple #[]) ∧
      PtsS N bs bm bc m con vs cs sv scope vals (out ++ if holdsC c vals then [a] else []) w' ∧ Below N w w' := by
  obtain ⟨hma, hia, d0, d1, d2, d3, l0, l1, l2⟩ := hT.old
  obtain ⟨⟨av, cv, rfl, _, _⟩, ⟨ac, cc, hcs, hmc, hrc⟩⟩ := hma
  subst hcs
  obtain ⟨asv, csv, hsv, hms, _⟩ := hia
  subst hsv
  obtain ⟨bb, off, vv, vc, vr, vl, hax, hbb, c0, c1, c2, c3, c4, c5, hK⟩ := hrc con c hc
  subst hax
  have HK : Hid (∀ w' : World, Below w.heap.size w w' → KArg w' vv vc vr vl c) := fun w' h => KArg.below h hK
  have HVA : Hid (∀ w' : World, Below w.heap.size w w' → IArg w' (.slice (some ⟨N, 0, none⟩) vals.length vals.length) vals) := fun w' h => IArg.below h hT.vals_arg
  obtain ⟨⟨q1, r1, h1, _, _⟩, ⟨q2, r2, h2, _, _⟩, ⟨q3, r3, h3, _, _⟩, ⟨q4, r4, h4, _, _⟩⟩ := hK
  subst h1; subst h2; subst h3; subst h4
  have hcon : con < m.cons.length := (List.getElem?_eq_some_iff.1 hc).1
  have d4 := hT.2.2.2.1
  have l4 : N + 1 < w.heap.size := by have := hT.1; omega
  have HNL : Hid (N ≤ w.heap.size) := by have := hT.1; exact (by omega : N ≤ w.heap.size)
  have HT : Hid (PtsS N bs bm bc m con (.slice av m.vars.length cv) (.slice (some ⟨bb, off, none⟩) m.cons.length cc) (.slice asv scope.length csv) scope vals out w) := hT
  have HVB : Hid (∀ x ∈ vals, -50 ≤ x ∧ x ≤ 50) := hvb
  have HCE : Hid (conE vals.length c = 0) := hce
  unfold maxLen at hmc hms
  obtain ⟨hmc1, hmc⟩ := hmc
  obtain ⟨hms1, hms⟩ := hms
  obtain ⟨i0, hi, hz0, hz1, hz2⟩ := info_parts Tryz.infoPart
  obtain ⟨O, hO⟩ : ∃ O, (out ++ if holdsC c vals then [a] else []) = O := ⟨_, rfl⟩
  have HO : Hid ((out ++ if holdsC c vals then [a] else []) = O) := hO
  rw [hO]
  clear hT hvb hce hrc hc hO
  go_enter Tryz.func99, Tryz.ntmps99
  go_wp2_with fail
  go_region_held3 (fun w' => Below w.heap.size w w' ∧ w'.cell? ⟨bm, 1, none⟩ = some (.slice (some ⟨bb, off, none⟩) m.cons.length cc) ∧ w'.cell? ⟨bc, 0, none⟩ = some (.int .i64 con) ∧ w'.cell? ⟨bb, off + con * 6, none⟩ = some (.int .i64 c.kind) ∧ w'.cell? ⟨bb, off + con * 6 + 1, none⟩ = some (.slice q1 c.vars.length r1) ∧ w'.cell? ⟨bb, off + con * 6 + 2, none⟩ = some (.slice q2 c.consts.length r2) ∧ w'.cell? ⟨bb, off + con * 6 + 3, none⟩ = some (.int .i64 c.n) ∧ w'.cell? ⟨bb, off + con * 6 + 4, none⟩ = some (.slice q3 c.rows.length r3) ∧ w'.cell? ⟨bb, off + con * 6 + 5, none⟩ = some (.slice q4 c.lits.length r4) ∧ w'.cell? ⟨N + 1, 0, none⟩ = some (.slice (some ⟨N, 0, none⟩) vals.length vals.length))
      ((refine (fun (hB : Below w.heap.size w _) => ⟨hB, (hB.cell (p := ⟨bm, 1, none⟩) l1).trans d2, (hB.cell (p := ⟨bc, 0, none⟩) l2).trans d3, (hB.cell (p := ⟨bb, off + con * 6, none⟩) hbb).trans c0, (hB.cell (p := ⟨bb, off + con * 6 + 1, none⟩) hbb).trans c1, (hB.cell (p := ⟨bb, off + con * 6 + 2, none⟩) hbb).trans c2, (hB.cell (p := ⟨bb, off + con * 6 + 3, none⟩) hbb).trans c3, (hB.cell (p := ⟨bb, off + con * 6 + 4, none⟩) hbb).trans c4, (hB.cell (p := ⟨bb, off + con * 6 + 5, none⟩) hbb).trans c5, (hB.cell (p := ⟨N + 1, 0, none⟩) l4).trans d4⟩ : Below w.heap.size w _ → _) ?_; first | exact (Below.refl _ _).drew | exact hbq))
      (first
        | (go_at_call 41; refine (holds_any c vals _ _ _ _ _ _ (HK.out _ (Below.refl _ _).drew) (HVA.out _ (Below.refl _ _).drew) HCE.out HVB.out).mono ?_; rintro e w1 ⟨rfl, hbr⟩; have hbq : Below w.heap.size w w1 := ⟨hbr.os, hbr.tape, hbr.output, hbr.size, hbr.block⟩))
  have HT1 : Hid (PtsS N bs bm bc m con (.slice av m.vars.length cv) (.slice (some ⟨bb, off, none⟩) m.cons.length cc) (.slice asv scope.length csv) scope vals out w1) := HT.out.below hbq
  have hbN : Below N w w1 := hbq.mono HNL.out
  clear hbr hbq c0 c1 c2 c3 c4 c5 d0 d1 d2 d3 d4 l0 l1 l2 l4 hbb
  cases hq : holdsC c vals
  · have HE : Hid (out = O) := by show _ = _; have := HO.out; rw [hq] at this; simpa using this
    clear hq
    go_wp2
    (try simp only [Exit.inBlock, Exit.then])
    refine bodyPost_ret (results_none rfl _ _ _) rfl ?_
    refine ⟨rfl, ?_, hbN⟩
    rw [← HE.out]
    exact HT1.out
  · have HE : Hid (out ++ [a] = O) := by show _ = _; have := HO.out; rw [hq] at this; simpa using this
    clear hq
    obtain ⟨hsz, _, _, _, _, ov, ho, hr⟩ := HT1.out
    obtain ⟨ax, cx, rfl⟩ := own_form hr
    have hco : w1.cell? ⟨N + 2, 0, none⟩ = some (.slice ax out.length cx) := ho.cellAt 0 (by omega)
    have hlo : N + 2 < w1.heap.size := by omega
    go_wp2_with (at_builtin; refine wpList_append_own _ rfl _ _ 94 rfl (N + 4) 97 i0 (.int .u64 0) 1 8 Tryz.underlying94 hi hz0 hz1 hz2 rfl (by decide) _ _ _ rfl (hr.alloc _) ⟨w1.heap.size, 0, none⟩ 1 1 [.int .u64 (a : Int)] rfl rfl ?c1 ?c2 ?c3 ?c4 ?c5 ?_)
    case c1 => exact part_laid w1 a
    case c2 => intro u hu; rcases List.mem_singleton.1 hu with rfl; rfl
    case c3 => unfold maxLen; omega
    case c4 => omega
    case c5 => simp; omega
    intro v3 w3 hown3 hgrow _
    have hown4 : w3.ownsRow (N + 4) 97 1 v3 (out ++ [a]).length (u64s (out ++ [a])) := by
      unfold u64s
      rw [List.length_append, List.map_append]; exact hown3
    have HPUT := (HT1.out.below (below_alloc _ _)).put (ho.alloc _) (hr.alloc _) hown4 hgrow
    have HP : Hid (PtsS N bs bm bc m con (.slice av m.vars.length cv) (.slice (some ⟨bb, off, none⟩) m.cons.length cc) (.slice asv scope.length csv) scope vals (out ++ [a]) (w3.setCell ⟨N + 2, 0, none⟩ v3)) := HPUT.1
    have HB4 : Hid (Below N w (w3.setCell ⟨N + 2, 0, none⟩ v3)) := hbN.trans (((Below.refl _ _).alloc (by omega) _).trans HPUT.2)
    have ht3 : w3.ownsRow N 94 1 (.slice (some ⟨N + 2, 0, none⟩) 1 1) 1 [.slice ax out.length cx] := (ho.alloc _).kept hgrow (Or.inr (fun h => by have := (hr.lt (N + 2) h.symm).1; omega))
    have hcB : w3.cell? ⟨N + 2, 0, none⟩ = some (.slice ax out.length cx) := ht3.cellAt 0 (by omega)
    have hfB : w3.frozen? ⟨N + 2, 0, none⟩ = false := ht3.frozenAt 0
    obtain ⟨av', cv', rfl⟩ := own_form hown4
    rw [show (out ++ [a]).length = out.length + 1 by simp] at HP HB4
    clear hown3 hgrow hown4 hr ho hco ht3 HPUT
    go_wp2
    (try simp only [Exit.inBlock, Exit.then])
    refine bodyPost_ret (results_none rfl _ _ _) rfl ?_
    exact ⟨rfl, by rw [← HE.out]; exact HP.out, HB4.out⟩
end Go.Proofs.YtddaebbllhiidaeGreatDoor
/-
  WALK: package fence: the closure that goes through a constraint's values, to its end.
-/
namespace Go.Proofs.YtddaebbllhiidaeGreatDoor
open Go.RowKit

theorem var_cells {w : World} {b off c n : Nat} {l : List MVar} (h : VArg w (.slice (some ⟨b, off, none⟩) n c) l) (j : Nat) (hj : j < l.length) :
    b < w.heap.size ∧ w.cell? ⟨b, off + j * 3 + 1, none⟩ = some (.int .i64 (varAt l j).lo) ∧ w.cell? ⟨b, off + j * 3 + 2, none⟩ = some (.int .i64 (varAt l j).hi) := by
  obtain ⟨a, c', hv, _, hr⟩ := h
  obtain ⟨_, b', off', ha, hb, _, c1, c2⟩ := hr j _ (var_at hj)
  injection hv with e1 _ _
  rw [ha] at e1
  cases e1
  exact ⟨hb, c1, c2⟩

set_option maxHeartbeats 3200000 in
set_option maxRecDepth 100000 in
theorem pts_any (N bs bm bc : Nat) (m : Mod) (con : Nat) (c : MCon) (vs cs sv : Value) (scope : List Int) (hm : checkM m = 0) (hc : m.cons[con]? = some c) (hsc : ∀ v ∈ scope, 0 ≤ v ∧ v < (m.vars.length : Int)) (hs8 : scope.length ≤ 8) :
    ∀ (rest : List Int) (k : Nat) (vals : List Int) (a : Nat) (out : List Nat) (w : World), scope.drop k = rest → k ≤ scope.length → vals.length = m.vars.length → (∀ x ∈ vals, -50 ≤ x ∧ x ≤ 50) → a < 2 ^ 36 → out.length + 6 ^ rest.length ≤ 10000000 →
      PtsS N bs bm bc m con vs cs sv scope vals out w →
      Calls Tryz.prog 99 #[.int .i64 k, .int .u64 a, .pointer (some ⟨bs, 0, none⟩), .pointer (some ⟨bm, 0, none⟩), .pointer (some ⟨bc, 0, none⟩), .pointer (some ⟨N + 1, 0, none⟩), .pointer (some ⟨N + 2, 0, none⟩), .pointer (some ⟨N + 3, 0, none⟩)] w fun e w' => e = .returned (.tuple #[]) ∧
        ∃ vals', PtsS N bs bm bc m con vs cs sv scope vals' (out ++ pointsN m.vars c rest vals a) w' ∧ vals'.length = m.vars.length ∧ (∀ x ∈ vals', -50 ≤ x ∧ x ≤ 50) ∧ Agree rest vals vals' ∧ Below N w w' := by
  have HSC : Hid (∀ v ∈ scope, 0 ≤ v ∧ v < (m.vars.length : Int)) := hsc
  have HVA : Hid (VarsAll m.vars) := vars_all m hm
  have HCE : Hid (conE m.vars.length c = 0) := con_ok m hm con c hc
  have HC : Hid (m.cons[con]? = some c) := hc
  clear hsc hm hc
  intro rest
  induction rest with
  | nil =>
    intro k vals a out w hdr hk hvl hvb ha hbud hT
    have hks : k = scope.length := by
      have := congrArg List.length hdr
      simp at this
      omega
    subst hks
    refine (pts_end N bs bm bc m con c vs cs sv scope vals a out w HC.out (by rw [hvl]; exact HCE.out) hvb (by simp at hbud; omega) hT).mono ?_
    rintro e w' ⟨rfl, h1, h2⟩
    exact ⟨rfl, vals, h1, hvl, hvb, Agree.refl _ _, h2⟩
  | cons v rest ih =>
    intro k vals a out w hdr hk hvl hvb ha hbud hT
    have hkl : k < scope.length := by
      have := congrArg List.length hdr
      simp at this
      omega
    have hkv : scope[k]? = some v := by
      have h := congrArg (fun q : List Int => q[0]?) hdr
      simpa using h
    have hdr2 : scope.drop (k + 1) = rest := by
      have h := congrArg List.tail hdr
      simpa using h
    obtain ⟨hv0, hv1⟩ := HSC.out v (List.mem_of_getElem? hkv)
    obtain ⟨j, rfl⟩ : ∃ j : Nat, v = (j : Int) := ⟨v.toNat, by omega⟩
    have hjs : j < m.vars.length := by omega
    obtain ⟨hma, hia, d0, d1, _, _, _, _, _⟩ := hT.old
    obtain ⟨⟨av, cv, hvs, hmv, hrv⟩, _⟩ := hma
    obtain ⟨_, b, off, hav, hbv, _, f1, f2⟩ := hrv j _ (var_at hjs)
    subst hav
    subst hvs
    obtain ⟨asv, csv, hsv, hms, hscell⟩ := hia
    obtain ⟨b2, o2, has, hb2, e0⟩ := hscell k _ hkv
    subst has
    subst hsv
    unfold maxLen at hms hmv
    obtain ⟨hms1, hms⟩ := hms
    obtain ⟨hmv1, hmv⟩ := hmv
    obtain ⟨lo, hlo⟩ : ∃ lo, (varAt m.vars j).lo = lo := ⟨_, rfl⟩
    obtain ⟨hi, hhi⟩ : ∃ hi, (varAt m.vars j).hi = hi := ⟨_, rfl⟩
    obtain ⟨n, hn⟩ : ∃ n, sizeV (varAt m.vars j) = n := ⟨_, rfl⟩
    have HLO : Hid ((varAt m.vars j).lo = lo) := hlo
    have HHI : Hid ((varAt m.vars j).hi = hi) := hhi
    have hbn := HVA.out.2 j hjs
    have hn6 : n ≤ 6 := by rw [← hn]; exact HVA.out.1.2 j
    have hnn : (n : Int) = hi + 1 - lo := by rw [← hn, ← hlo, ← hhi]; unfold sizeV; omega
    rw [hlo] at f1 hbn
    rw [hhi] at f2 hbn
    have H6 : Hid (m.vars.length ≤ 6) := HVA.out.1.1
    have HT : Hid (PtsS N bs bm bc m con (.slice (some ⟨b, off, none⟩) m.vars.length cv) cs (.slice (some ⟨b2, o2, none⟩) scope.length csv) scope vals out w) := hT
    have HVB : Hid (∀ x ∈ vals, -50 ≤ x ∧ x ≤ 50) := hvb
    have HVL : Hid (vals.length = m.vars.length) := hvl
    have HA : Hid (a < 2 ^ 36) := ha
    have HALL : Hid (ptsN m.vars c j rest vals a lo n = pointsN m.vars c ((j : Int) :: rest) vals a) := by show _ = _; rw [← hlo, ← hn]; exact ptsN_all m.vars c j rest vals a
    obtain ⟨X, hX⟩ : ∃ X, 6 ^ rest.length = X := ⟨_, rfl⟩
    have hbud2 : out.length + 6 * X ≤ 10000000 := by
      rw [List.length_cons, Nat.pow_succ] at hbud
      omega
    have HCNT : Hid (∀ jj, (ptsN m.vars c j rest vals a lo jj).length ≤ jj * X) := fun jj => by rw [← hX]; exact ptsN_count m.vars HVA.out.1 c j rest vals a lo jj
    have HIH : Hid (∀ (vals : List Int) (a : Nat) (out : List Nat) (w : World), vals.length = m.vars.length → (∀ x ∈ vals, -50 ≤ x ∧ x ≤ 50) → a < 2 ^ 36 → out.length + X ≤ 10000000 →
      PtsS N bs bm bc m con (.slice (some ⟨b, off, none⟩) m.vars.length cv) cs (.slice (some ⟨b2, o2, none⟩) scope.length csv) scope vals out w →
      Calls Tryz.prog 99 #[.int .i64 ((k : Int) + 1), .int .u64 a, .pointer (some ⟨bs, 0, none⟩), .pointer (some ⟨bm, 0, none⟩), .pointer (some ⟨bc, 0, none⟩), .pointer (some ⟨N + 1, 0, none⟩), .pointer (some ⟨N + 2, 0, none⟩), .pointer (some ⟨N + 3, 0, none⟩)] w fun e w' => e = .returned (.tuple #[]) ∧
        ∃ vals', PtsS N bs bm bc m con (.slice (some ⟨b, off, none⟩) m.vars.length cv) cs (.slice (some ⟨b2, o2, none⟩) scope.length csv) scope vals' (out ++ pointsN m.vars c rest vals a) w' ∧ vals'.length = m.vars.length ∧ (∀ x ∈ vals', -50 ≤ x ∧ x ≤ 50) ∧ Agree rest vals vals' ∧ Below N w w') := by
      intro vals1 a1 out1 w1 q1 q2 q3 q4 q5
      exact ih (k + 1) vals1 a1 out1 w1 hdr2 (by omega) q1 q2 q3 (by rw [hX]; exact q4) q5
    have HONE : Hid (∀ (jj : Nat) (w' : World), jj < n → VArg w' (.slice (some ⟨b, off, none⟩) m.vars.length cv) m.vars → Calls Tryz.prog 100 #[.slice (some ⟨b, off, none⟩) m.vars.length cv, .int .i64 j, .int .i64 (lo + (jj : Int))] w' fun e w'' => e = .returned (.int .u64 ((2 ^ (6 * j + jj) : Nat) : Int)) ∧ w'' = w') := by
      intro jj w' hjj hva'
      have h1 := one_any m.vars HVA.out.1 j (lo + (jj : Int)) _ w' hva' hjs (by rw [HLO.out]; omega) (by rw [HHI.out]; omega) (by rw [HLO.out, HHI.out]; omega)
      rw [HLO.out, show (lo + (jj : Int) - lo).toNat = jj by omega] at h1
      exact h1
    have HPOW : Hid (∀ jj, jj < n → 2 ^ (6 * j + jj) < 2 ^ 36) := fun jj hjj => pow_lt36 m.vars HVA.out j jj hjs (by omega)
    have g0 : ((k : Int) == (scope.length : Int)) = false := by simp; omega
    have hlt8 : k < 8 := by omega
    clear hT hvb hdr hvl hbud hrv hscell ih hX hdr2 hkv hv0 hv1 hlo hhi hn ha
    go_enter Tryz.func99, Tryz.ntmps99
    go_wp2_with fail
    clear d0 d1 e0 f1 f2
    go_loopw [11] (fun i wr => ∃ (jj : Nat) (vals' : List Int), jj ≤ n ∧ i = .int .i64 (lo + (jj : Int)) ∧ PtsS N bs bm bc m con (.slice (some ⟨b, off, none⟩) m.vars.length cv) cs (.slice (some ⟨b2, o2, none⟩) scope.length csv) scope vals' (out ++ ptsN m.vars c j rest vals a lo jj) wr ∧ Hid (vals'.length = m.vars.length ∧ (∀ x ∈ vals', -50 ≤ x ∧ x ≤ 50) ∧ Agree ((j : Int) :: rest) vals vals') ∧ Below N w wr) (fun i _ => (hi + 1 - intOf i).toNat)
    case atStart => exact ⟨0, vals, by omega, by simp, by simpa [ptsN] using HT.out, ⟨HVL.out, HVB.out, Agree.refl _ _⟩, Below.refl _ _⟩
    case round =>
      obtain ⟨jj, vals', hjj, rfl, hTr, hH, hbw⟩ := hrel
      have HTR : Hid (PtsS N bs bm bc m con (.slice (some ⟨b, off, none⟩) m.vars.length cv) cs (.slice (some ⟨b2, o2, none⟩) scope.length csv) scope vals' (out ++ ptsN m.vars c j rest vals a lo jj) wr) := hTr
      have HBW : Hid (Below N w wr) := hbw
      clear hTr hbw
      obtain ⟨hma, _, _, d1, _, _, _, lm, _⟩ := HTR.out.old
      obtain ⟨lb, f1, f2⟩ := var_cells hma.1 j hjs
      rw [HLO.out] at f1
      rw [HHI.out] at f2
      clear hma
      by_cases hlt : jj < n
      · have hle : lo + (jj : Int) ≤ hi := by omega
        have hjv : j < vals'.length := by rw [hH.out.1]; exact hjs
        have d4 := HTR.out.2.2.2.1
        have HOW := HTR.out.2.2.1
        have hNl : N + 4 ≤ wr.heap.size := HTR.out.1
        obtain ⟨y, hy⟩ : ∃ y, vals'[j]? = some y := ⟨vals'[j], by simp [hjv]⟩
        have cN : wr.cell? ⟨N, j, none⟩ = some (.int .i64 y) := by rw [HOW.cellAt j (by omega), List.getElem?_map, hy]; rfl
        have zN := HOW.frozenAt j
        have HSET := HTR.out.set j (lo + (jj : Int))
        have hxb : -50 ≤ lo + (jj : Int) ∧ lo + (jj : Int) ≤ 50 := by omega
        have HST : Hid (PtsS N bs bm bc m con (.slice (some ⟨b, off, none⟩) m.vars.length cv) cs (.slice (some ⟨b2, o2, none⟩) scope.length csv) scope (vals'.set j (lo + (jj : Int))) (out ++ ptsN m.vars c j rest vals a lo jj) (wr.setCell ⟨N, j, none⟩ (.int .i64 (lo + (jj : Int))))) := HSET.1
        have HSB : Hid (Below N w (wr.setCell ⟨N, j, none⟩ (.int .i64 (lo + (jj : Int))))) := HBW.out.trans HSET.2
        have HV1 : Hid ((vals'.set j (lo + (jj : Int))).length = m.vars.length) := by show _ = _; rw [List.length_set]; exact hH.out.1
        have HV2 : Hid (∀ y ∈ vals'.set j (lo + (jj : Int)), -50 ≤ y ∧ y ≤ 50) := bounds_set _ _ _ hH.out.2.1 hxb
        have HBU : Hid ((out ++ ptsN m.vars c j rest vals a lo jj).length + X ≤ 10000000) := by
          have h1 := HCNT.out jj
          have h2 : jj * X ≤ 5 * X := Nat.mul_le_mul_right _ (by omega)
          show _ ≤ _
          rw [List.length_append]
          omega
        have HNX : Hid (ptsN m.vars c j rest vals a lo (jj + 1) = ptsN m.vars c j rest vals a lo jj ++ pointsN m.vars c rest (vals'.set j (lo + (jj : Int))) (a ||| 2 ^ (6 * j + jj))) := by
          show _ = _
          rw [ptsN_next]
          congr 1
          have h := (hH.out.2.2).set (lo + (jj : Int))
          exact points_same m.vars c rest _ _ _ h
        have HAG : Hid (Agree ((j : Int) :: rest) vals (vals'.set j (lo + (jj : Int)))) := (hH.out.2.2).trans (Agree.of_set rest vals' (j : Int) (lo + (jj : Int)))
        have hp36 := HPOW.out jj hlt
        obtain ⟨t, ht⟩ : ∃ t, 2 ^ (6 * j + jj) = t := ⟨_, rfl⟩
        have HO1 := HONE.out jj
        rw [ht] at hp36 HNX HO1
        have HON : Hid (∀ (w' : World), VArg w' (.slice (some ⟨b, off, none⟩) m.vars.length cv) m.vars → Calls Tryz.prog 100 #[.slice (some ⟨b, off, none⟩) m.vars.length cv, .int .i64 j, .int .i64 (lo + (jj : Int))] w' fun e w'' => e = .returned (.int .u64 (t : Int)) ∧ w'' = w') := fun w' h => HO1 w' hlt h
        have hor := bits_or_u64_nat a t (by have := HA.out; omega) (by omega)
        obtain ⟨a2, ha2⟩ : ∃ a2, a ||| t = a2 := ⟨_, rfl⟩
        have HA2 : Hid (a2 < 2 ^ 36) := by rw [← ha2]; exact or_lt36 HA.out hp36
        rw [ha2] at hor HNX
        clear hy HOW HSET hH hxb ht HO1 hp36 ha2
        go_wp2_with fail
        obtain ⟨W2, hW2⟩ : ∃ W2, wr.setCell ⟨N, j, none⟩ (.int .i64 (lo + (jj : Int))) = W2 := ⟨_, rfl⟩
        rw [hW2] at HST HSB ⊢
        clear hW2 d1 f1 f2 d4 cN zN lm lb hNl
        obtain ⟨hma, _, _, d1, _, _, _, lm, _⟩ := HST.out.old
        have d5 := HST.out.2.2.2.2.1
        unfold ptsCaps at d5
        have HMV : Hid (VArg W2.drew (.slice (some ⟨b, off, none⟩) m.vars.length cv) m.vars) := VArg.below (Below.refl _ _).drew hma.1
        have HSTD : Hid (PtsS N bs bm bc m con (.slice (some ⟨b, off, none⟩) m.vars.length cv) cs (.slice (some ⟨b2, o2, none⟩) scope.length csv) scope (vals'.set j (lo + (jj : Int))) (out ++ ptsN m.vars c j rest vals a lo jj) W2.drew) := HST.out.below (Below.refl _ _).drew
        clear hma
        have hwk : IntKind.i64.wrap ((k : Int) + 1) = (k : Int) + 1 := by simp [IntKind.wrap, IntKind.signed, IntKind.bits]; omega
        go_region_held3 (fun w' => w'.cell? ⟨N + 3, 0, none⟩ = some (.func (.func 99) #[] #[.pointer (some ⟨bs, 0, none⟩), .pointer (some ⟨bm, 0, none⟩), .pointer (some ⟨bc, 0, none⟩), .pointer (some ⟨N + 1, 0, none⟩), .pointer (some ⟨N + 2, 0, none⟩), .pointer (some ⟨N + 3, 0, none⟩)]) ∧ w'.cell? ⟨bm, 0, none⟩ = some (.slice (some ⟨b, off, none⟩) m.vars.length cv))
          (first | exact ⟨d5, d1⟩ | assumption | exact ⟨hd5, hd1⟩)
          (first
            | (go_at_call 100; refine (HON.out _ HMV.out).mono ?_; rintro e w2 ⟨rfl, rfl⟩)
            | (go_at_call 99; refine (HIH.out _ _ _ _ HV1.out HV2.out HA2.out HBU.out HSTD.out).mono ?_; rintro e w2 ⟨rfl, v2, hT2, hl2, hb2', hag2, hbN2⟩; have hd5 := hT2.2.2.2.2.1; unfold ptsCaps at hd5; have hd1 := hT2.old.2.2.2.1))
        · have HT2 : Hid (PtsS N bs bm bc m con (.slice (some ⟨b, off, none⟩) m.vars.length cv) cs (.slice (some ⟨b2, o2, none⟩) scope.length csv) scope v2 (out ++ ptsN m.vars c j rest vals a lo (jj + 1)) w2) := by
            rw [HNX.out, ← List.append_assoc]; exact hT2
          have HH2 : Hid (v2.length = m.vars.length ∧ (∀ x ∈ v2, -50 ≤ x ∧ x ≤ 50) ∧ Agree ((j : Int) :: rest) vals v2) := ⟨hl2, hb2', HAG.out.trans (Agree.cons _ hag2)⟩
          have HB2 : Hid (Below N w w2) := HSB.out.trans ((Below.refl _ _).drew.trans hbN2)
          clear hT2 hl2 hb2' hag2 hbN2 hd5 hd1
          go_wp2
          go_roundw
          case rel => exact ⟨jj + 1, v2, by omega, by go_num, HT2.out, HH2, HB2.out⟩
          case measure => simp [intOf]; omega
      · have hle : ¬ (lo + (jj : Int) ≤ hi) := by omega
        have hje : jj = n := by omega
        have HF : Hid (PtsS N bs bm bc m con (.slice (some ⟨b, off, none⟩) m.vars.length cv) cs (.slice (some ⟨b2, o2, none⟩) scope.length csv) scope vals' (out ++ pointsN m.vars c ((j : Int) :: rest) vals a) wr) := by
          have h := HTR.out
          rw [hje, HALL.out] at h
          exact h
        clear hje
        go_wp2
        go_end0
        exact ⟨rfl, vals', HF.out, hH.out.1, hH.out.2.1, hH.out.2.2, HBW.out⟩
end Go.Proofs.YtddaebbllhiidaeGreatDoor
/-
  WALK: package fence: Points.
-/
namespace Go.Proofs.YtddaebbllhiidaeGreatDoor
open Go.RowKit

theorem own_parts {w : World} {base : Nat} {v : Value} {l : List Nat} (h : w.ownsRow base 97 1 v l.length (u64s l)) (hl : ∀ z ∈ l, z < 2 ^ 36) : PArg w v l := by
  rcases h.2 with ⟨rfl, hn⟩ | ⟨g, cap, cur, rfl, hg, hh, hc1, hc2, _, _⟩
  · have : l = [] := List.eq_nil_of_length_eq_zero hn
    subst this
    exact ⟨none, 0, rfl, ⟨Nat.le_refl _, Nat.zero_le _⟩, fun i z hz => by simp at hz⟩
  · refine ⟨_, cap, rfl, ⟨hc1, hc2⟩, fun i z hz => ⟨hl z (List.mem_of_getElem? hz), g, 0, rfl, (Array.getElem?_eq_some_iff.1 hh).1, ?_⟩⟩
    have hi : i < l.length := (List.getElem?_eq_some_iff.1 hz).1
    rw [Nat.zero_add, h.cellAt i (by omega)]
    unfold u64s
    rw [List.getElem?_map, hz]; rfl
theorem scope_short (m : Mod) (hm : checkM m = 0) (j : Nat) (c : MCon) (hc : m.cons[j]? = some c) : (scopeC c).length ≤ 8 := by
  obtain ⟨hn4, hl4, _, _⟩ := many_not c (con_facts _ _ (con_ok m hm j c hc)).2.1
  have h1 := compI_len (sortI (scopeL c))
  rw [sortI_len] at h1
  show (compI (sortI (scopeL c))).length ≤ 8
  have h2 : (scopeL c).length = c.vars.length + c.lits.length := by simp [scopeL]
  omega
theorem Tryz.infoIntF : (Tryz.prog.info? 3).map (fun i => (i.zero, i.size, i.bytes)) = some (some (.int .i64 0), 1, 8) := by kernel_rfl
theorem Tryz.underIntsF : Tryz.prog.underlying 39 = some (.slice 3) := by kernel_rfl
theorem zeros_own (w : World) (n base : Nat) (hn : n ≤ 6) (hb : base ≤ w.heap.size) : (w.alloc (.cells (madeCells #[.int .i64 0] n) 3)).ownsRow base 3 1 (.slice (some ⟨w.heap.size, 0, none⟩) n n) n ((zerosOf n).map (Value.int .i64)) := by
  refine ⟨by simp [zerosOf], Or.inr ⟨w.heap.size, n, _, rfl, hb, heap_alloc_new w _, Nat.le_refl _, by unfold maxLen; omega, ?_, ?_⟩⟩
  · have h := congrArg List.length (toList_madeCells_one (.int .i64 0) n)
    simp at h
    simpa using h
  · rw [toList_madeCells_one]
    simp [zerosOf]

def ptsObjs (N bs bm bc n : Nat) (W : World) : World := (((W.alloc (.cells (madeCells #[.int .i64 0] n) 3)).alloc (.cells #[.slice (some ⟨N, 0, none⟩) n n] 39)).alloc (.cells #[.slice none 0 0] 94)).alloc (.cells #[.func (.func 99) #[] (ptsCaps N bs bm bc)] 136)
theorem pts_new {W : World} {N bs bm bc con n : Nat} {m : Mod} {vs cs sv : Value} {scope : List Int} (hN : W.heap.size = N) (hn : n ≤ 6)
    (hW : MArg W vs cs m ∧ IArg W sv scope ∧ W.cell? ⟨bs, 0, none⟩ = some sv ∧ W.cell? ⟨bm, 0, none⟩ = some vs ∧ W.cell? ⟨bm, 1, none⟩ = some cs ∧ W.cell? ⟨bc, 0, none⟩ = some (.int .i64 con)) :
    PtsS N bs bm bc m con vs cs sv scope (zerosOf n) [] (ptsObjs N bs bm bc n W) ∧ Below N W (ptsObjs N bs bm bc n W) := by
  subst hN
  have hzl : (zerosOf n).length = n := by simp [zerosOf]
  have r1 := zeros_own W n W.heap.size hn (Nat.le_refl _)
  have r3 := World.ownsRow_lit (base := W.heap.size) (e := 94) (size := 1) ((W.alloc (.cells (madeCells #[.int .i64 0] n) 3)).alloc (.cells #[.slice (some ⟨W.heap.size, 0, none⟩) n n] 39)) #[.slice none 0 0] 1 (by simp; omega) (by unfold maxLen; omega) rfl
  have e3 : ((W.alloc (.cells (madeCells #[.int .i64 0] n) 3)).alloc (.cells #[.slice (some ⟨W.heap.size, 0, none⟩) n n] 39)).heap.size = W.heap.size + 2 := by simp
  rw [e3] at r3
  have hsz : (ptsObjs W.heap.size bs bm bc n W).heap.size = W.heap.size + 4 := by unfold ptsObjs; simp
  have hb : Below W.heap.size W (ptsObjs W.heap.size bs bm bc n W) := (((below_alloc _ _).alloc (by simp) _).alloc (by simp; omega) _).alloc (by simp; omega) _
  have q1 : (ptsObjs W.heap.size bs bm bc n W).ownsRow W.heap.size 3 1 (.slice (some ⟨W.heap.size, 0, none⟩) n n) n ((zerosOf n).map (Value.int .i64)) := ((r1.alloc _).alloc _).alloc _
  refine ⟨⟨by omega, ⟨W, Nat.le_refl _, hW, hb⟩, by rw [hzl]; exact q1, ?_, ?_, .slice none 0 0, r3.alloc _, World.ownsRow_nil _ _ _ _⟩, hb⟩
  · rw [hzl]
    unfold ptsObjs
    rw [World.cell?_alloc_past _ _ _ (by simp), World.cell?_alloc_past _ _ _ (by simp)]
    exact World.cell?_alloc_at _ _ _ 0 (by simp)
  · unfold ptsObjs
    exact World.cell?_alloc_at _ _ _ 0 (by simp)

set_option maxHeartbeats 1600000 in
set_option maxRecDepth 100000 in
theorem points_own (m : Mod) (con : Nat) (c : MCon) (vs cs : Value) (w : World) (hm : checkM m = 0) (hc : m.cons[con]? = some c) (hma : MArg w vs cs m) :
    Calls Tryz.prog 54 #[modV vs cs m, .int .i64 con] w fun e w' => ∃ x, e = .returned x ∧ w'.ownsRow w.heap.size 97 1 x (pointsP m.vars c).length (u64s (pointsP m.vars c)) ∧ Below w.heap.size w w' := by
  have HMA : Hid (∀ w', Below w.heap.size w w' → MArg w' vs cs m) := fun w' h => MArg.below h hma
  have HM : Hid (checkM m = 0) := hm
  have HC : Hid (m.cons[con]? = some c) := hc
  have H6 : m.vars.length ≤ 6 := (checkM_vars m hm).2.1
  have hcon : con < m.cons.length := (List.getElem?_eq_some_iff.1 hc).1
  have HSC : Hid (scopeA m (con : Int) = (scopeC c, 0)) := by
    show _ = _
    have h1 : conCheck m (con : Int) = 0 := by unfold conCheck; rw [if_pos hm, if_neg (by omega)]
    unfold scopeA
    rw [if_pos h1, Int.toNat_natCast, List.getD_eq_getElem?_getD, hc]; rfl
  have hmk := run_make_row' (P := Tryz.prog) 39 3 (.int .i64 0) 8 Tryz.underIntsF Tryz.infoIntF rfl .i64 .i64 m.vars.length (by omega) (by omega)
  obtain ⟨⟨a1, c1, rfl, hm1, _⟩, ⟨a2, c2, rfl, _, _⟩⟩ := hma
  unfold maxLen at hm1
  obtain ⟨hm11, hm1⟩ := hm1
  unfold modV
  clear hm hc
  go_enter Tryz.func54, Tryz.ntmps54
  go_wp2_with fail
  refine (mscope_any m (con : Int) _ _ _ (HMA.out _ ((below_alloc _ _).alloc (by simp) _))).mono ?_
  rw [HSC.out]
  rintro e w1 ⟨x, rfl, hx, hb1⟩
  have hbw : Below w.heap.size w w1 := ((below_alloc _ _).alloc (by simp) _).trans (hb1.mono (by simp; omega))
  have hq0 : w1.cell? ⟨w.heap.size, 0, none⟩ = some (.slice a1 m.vars.length c1) := (hb1.cell (by simp; omega)).trans ((World.cell?_alloc_past _ _ _ (by simp)).trans (World.cell?_alloc_at _ _ _ 0 (by simp)))
  have hq1 : w1.cell? ⟨w.heap.size, 1, none⟩ = some (.slice a2 m.cons.length c2) := (hb1.cell (by simp; omega)).trans ((World.cell?_alloc_past _ _ _ (by simp)).trans (World.cell?_alloc_at _ _ _ 1 (by simp)))
  have hq2 : w1.cell? ⟨w.heap.size + 1, 0, none⟩ = some (.int .i64 con) := (hb1.cell (by simp)).trans (World.cell?_alloc_at _ _ _ 0 (by simp))
  have hl0 : w.heap.size + 1 < w1.heap.size := by have := hb1.size; simp at this; omega
  have hl1 : w.heap.size < w1.heap.size := by omega
  have HX : Hid (IArg w1 x (scopeC c)) := hx
  obtain ⟨ax, cx, rfl, _, _⟩ := hx
  have HBW : Hid (Below w.heap.size w w1) := hbw
  have HSCI : Hid (∀ v ∈ scopeC c, 0 ≤ v ∧ v < (m.vars.length : Int)) := (scope_in m HM.out con c HC.out).1
  have HS8 : Hid ((scopeC c).length ≤ 8) := scope_short m HM.out con c HC.out
  have HPN : Hid (_) := pts_new (W := w1.alloc (.cells #[.slice ax (scopeC c).length cx] 39)) (N := w1.heap.size + 1) (bs := w1.heap.size) (bm := w.heap.size) (bc := w.heap.size + 1) (con := con) (n := m.vars.length) (m := m) (scope := scopeC c) (by simp) H6
    ⟨HMA.out _ (HBW.out.alloc HBW.out.size _), IArg.below (below_alloc _ _) HX.out, World.cell?_alloc_at _ _ _ 0 (by simp), (World.cell?_alloc_past _ _ _ hl1).trans hq0, (World.cell?_alloc_past _ _ _ hl1).trans hq1, (World.cell?_alloc_past _ _ _ hl0).trans hq2⟩
  clear hb1 hbw
  go_wp2_with fail
  have HB5 : Hid (Below w.heap.size w (ptsObjs (w1.heap.size + 1) w1.heap.size w.heap.size (w.heap.size + 1) m.vars.length (w1.alloc (.cells #[.slice ax (scopeC c).length cx] 39)))) := (HBW.out.alloc HBW.out.size _).trans (HPN.out.2.mono (by have := HBW.out.size; omega))
  have HZL : Hid ((zerosOf m.vars.length).length = m.vars.length) := by show _ = _; simp [zerosOf]
  refine (pts_any (w1.heap.size + 1) w1.heap.size w.heap.size (w.heap.size + 1) m con c _ _ _ (scopeC c) HM.out HC.out HSCI.out HS8.out (scopeC c) 0 (zerosOf m.vars.length) 0 [] (ptsObjs (w1.heap.size + 1) w1.heap.size w.heap.size (w.heap.size + 1) m.vars.length (w1.alloc (.cells #[.slice ax (scopeC c).length cx] 39))) rfl (Nat.zero_le _) HZL.out (fun x hx => by have := List.eq_of_mem_replicate hx; omega) (by omega) ?_ HPN.out.1).mono ?_
  · have h2 : 6 ^ (scopeC c).length ≤ 6 ^ 8 := Nat.pow_le_pow_right (by omega) HS8.out
    simp only [List.length_nil]
    omega
  rintro e w2 ⟨rfl, vals', hT2, _, _, _, hb2⟩
  have HB6 : Hid (Below w.heap.size w w2) := HB5.out.trans (hb2.mono (by have := HBW.out.size; omega))
  obtain ⟨hsz, _, _, _, _, ov, ho, hr⟩ := hT2
  have HPA : Hid (w2.ownsRow w.heap.size 97 1 ov (pointsP m.vars c).length (u64s (pointsP m.vars c))) := World.ownsRow.mono hr (by have := HBW.out.size; omega)
  obtain ⟨ao, co, rfl⟩ := own_form hr
  have hco : w2.cell? ⟨w1.heap.size + 1 + 1 + 1, 0, none⟩ = some (.slice ao ([] ++ pointsN m.vars c (scopeC c) (zerosOf m.vars.length) 0).length co) := ho.cellAt 0 (by omega)
  have hlo : w1.heap.size + 1 + 1 + 1 < w2.heap.size := by omega
  clear hr ho hb2 HPN
  go_wp2
  go_ret
  exact ⟨_, rfl, HPA.out, HB6.out⟩
theorem pointsP_lt (m : Mod) (hm : checkM m = 0) (j : Nat) (c : MCon) (hc : m.cons[j]? = some c) : ∀ z ∈ pointsP m.vars c, z < 2 ^ 36 := points_lt m.vars (vars_all m hm) c _ _ _ (scope_in m hm j c hc).1 (by omega)
theorem points_any (m : Mod) (con : Nat) (c : MCon) (vs cs : Value) (w : World) (hm : checkM m = 0) (hc : m.cons[con]? = some c) (hma : MArg w vs cs m) :
    Calls Tryz.prog 54 #[modV vs cs m, .int .i64 con] w fun e w' => ∃ x, e = .returned x ∧ PArg w' x (pointsP m.vars c) ∧ Below w.heap.size w w' :=
  (points_own m con c vs cs w hm hc hma).mono fun _ _ ⟨x, h1, h2, h3⟩ => ⟨x, h1, own_parts h2 (pointsP_lt m hm con c hc), h3⟩
end Go.Proofs.YtddaebbllhiidaeGreatDoor
/-
  WALK: package explain: least.
-/
namespace Go.Proofs.YtddaebbllhiidaeGreatDoor
open Go.RowKit

theorem drew_sizeE (w : World) : w.drew.heap.size = w.heap.size := rfl
/-- A box of one cell that may be written. -/
abbrev HasBox (w : World) (n : Nat) (v : Value) : Prop := w.cell? ⟨n, 0, none⟩ = some v ∧ w.frozen? ⟨n, 0, none⟩ = false ∧ n < w.heap.size
theorem box_at {Y : World} {v : Value} {t : TypeId} : HasBox (Y.alloc (.cells #[v] t)) Y.heap.size v := by
  have h : (Y.alloc (.cells #[v] t)).heap[Y.heap.size]? = some (.cells #[v] t) := heap_alloc_new Y _
  exact ⟨World.cell?_alloc_at _ _ _ 0 (by simp), (by unfold World.frozen?; simp only [h]; simp), by simp⟩
theorem box_old {Y w3 : World} {n : Nat} {v : Value} (hb : Below Y.heap.size Y w3) (h : HasBox Y n v) : HasBox w3 n v :=
  ⟨(hb.cell (p := ⟨n, 0, none⟩) h.2.2).trans h.1, (hb.frozen (p := ⟨n, 0, none⟩) h.2.2).trans h.2.1, Nat.lt_of_lt_of_le h.2.2 hb.size⟩
theorem box_alloc {Y : World} {n : Nat} {v : Value} {o : Obj} (h : HasBox Y n v) : HasBox (Y.alloc o) n v := box_old (below_alloc _ _) h
theorem box_new {Y w3 : World} {v : Value} {t : TypeId} (hb : Below (Y.alloc (.cells #[v] t)).heap.size (Y.alloc (.cells #[v] t)) w3) : HasBox w3 Y.heap.size v := box_old hb box_at
theorem box_new2 {Y w3 : World} {v : Value} {t : TypeId} {o : Obj} (hb : Below ((Y.alloc (.cells #[v] t)).alloc o).heap.size ((Y.alloc (.cells #[v] t)).alloc o) w3) : HasBox w3 Y.heap.size v := box_old hb (box_alloc box_at)
theorem box_oldA {Y w3 : World} {n : Nat} {v : Value} {o : Obj} (hb : Below (Y.alloc o).heap.size (Y.alloc o) w3) (h : HasBox Y n v) : HasBox w3 n v := box_old hb (box_alloc h)
theorem fen_drew {w2 w3 : World} (h : Below w2.drew.heap.size w2.drew w3) : Below w2.heap.size w2 w3 := ⟨h.os, h.tape, h.output, h.size, h.block⟩
theorem fen_alloc {w2 Y : World} {o : Obj} {A : Prop} (h : Below w2.heap.size w2 Y ∧ A) : Below w2.heap.size w2 (Y.alloc o) := h.1.alloc h.1.size o
theorem fen_set {w2 Y : World} {A : Prop} {b : Nat} {v : Value} (h : Below w2.heap.size w2 Y ∧ A) (hb : w2.heap.size ≤ b) : Below w2.heap.size w2 (Y.setCell ⟨b, 0, none⟩ v) := h.1.setCell hb _

theorem pts_keep {w4 : World} {base lim b : Nat} {x v : Value} {pts : List Nat} (hx : w4.ownsRow base 97 1 x pts.length (u64s pts)) (hl : ∀ g, x.ownBlock = some g → g < lim) (hb : b < base ∨ lim ≤ b) : (w4.setCell ⟨b, 0, none⟩ v).ownsRow base 97 1 x pts.length (u64s pts) :=
  own_at hx fun g hg => Below.heap_setCell _ _ _ _ (fun he => by have h1 := (hx.lt g hg).1; have h2 := hl g hg; simp only at he; omega)
/-- Both boxes are laid: the points', and what is held. -/
def LB (W wx : World) (bp bh : Nat) (pv hv : Value) (pts : List Nat) : Prop := wx.cell? ⟨bp, 0, none⟩ = some pv ∧ wx.cell? ⟨bh, 0, none⟩ = some hv ∧ PArg wx pv pts ∧ Below W.heap.size W wx
theorem lb_aa1 {W w4 : World} {base : Nat} {pv hv : Value} {pts : List Nat} {t t' : TypeId} (hx : w4.ownsRow base 97 1 pv pts.length (u64s pts)) (hlt : ∀ z ∈ pts, z < 2 ^ 36) (hB : Below W.heap.size W w4) :
    LB W ((w4.alloc (.cells #[pv] t)).alloc (.cells #[hv] t')) w4.heap.size (w4.heap.size + 1) pv hv pts :=
  ⟨(World.cell?_alloc_past _ _ _ (by simp)).trans (World.cell?_alloc_at _ _ _ 0 (by simp)), World.cell?_alloc_at _ _ _ 0 (by simp), own_parts ((hx.alloc _).alloc _) hlt, (hB.alloc hB.size _).alloc (by have := hB.size; simp; omega) _⟩
theorem lb_aa2 {W w4 : World} {base : Nat} {pv hv : Value} {pts : List Nat} {t t' : TypeId} (hx : w4.ownsRow base 97 1 pv pts.length (u64s pts)) (hlt : ∀ z ∈ pts, z < 2 ^ 36) (hB : Below W.heap.size W w4) :
    LB W ((w4.alloc (.cells #[hv] t')).alloc (.cells #[pv] t)) (w4.heap.size + 1) w4.heap.size pv hv pts :=
  ⟨World.cell?_alloc_at _ _ _ 0 (by simp), (World.cell?_alloc_past _ _ _ (by simp)).trans (World.cell?_alloc_at _ _ _ 0 (by simp)), own_parts ((hx.alloc _).alloc _) hlt, (hB.alloc hB.size _).alloc (by have := hB.size; simp; omega) _⟩
theorem lb_sa1 {W w4 : World} {base lim n : Nat} {pv hv u : Value} {pts : List Nat} {t' : TypeId} (hx : w4.ownsRow base 97 1 pv pts.length (u64s pts)) (hl : ∀ g, pv.ownBlock = some g → g < lim) (hlt : ∀ z ∈ pts, z < 2 ^ 36) (hB : Below W.heap.size W w4) (hn : HasBox w4 n u) (h1 : W.heap.size ≤ n) (h2 : n < base ∨ lim ≤ n) :
    LB W ((w4.setCell ⟨n, 0, none⟩ pv).alloc (.cells #[hv] t')) n w4.heap.size pv hv pts :=
  ⟨(World.cell?_alloc_past _ _ _ (by have := hn.2.2; simp; omega)).trans (World.cell?_setCell_same _ _ _ hn.1), World.cell?_alloc_at _ _ _ 0 (by simp), own_parts ((pts_keep hx hl h2).alloc _) hlt, (hB.setCell h1 _).alloc (by have := hB.size; simp; omega) _⟩
theorem lb_sa2 {W w4 : World} {base lim n : Nat} {pv hv u : Value} {pts : List Nat} {t : TypeId} (hx : w4.ownsRow base 97 1 pv pts.length (u64s pts)) (hl : ∀ g, pv.ownBlock = some g → g < lim) (hlt : ∀ z ∈ pts, z < 2 ^ 36) (hB : Below W.heap.size W w4) (hn : HasBox w4 n u) (h1 : W.heap.size ≤ n) (h2 : n < base ∨ lim ≤ n) :
    LB W ((w4.setCell ⟨n, 0, none⟩ hv).alloc (.cells #[pv] t)) w4.heap.size n pv hv pts :=
  ⟨World.cell?_alloc_at _ _ _ 0 (by simp), (World.cell?_alloc_past _ _ _ (by have := hn.2.2; simp; omega)).trans (World.cell?_setCell_same _ _ _ hn.1), own_parts ((pts_keep hx hl h2).alloc _) hlt, (hB.setCell h1 _).alloc (by have := hB.size; simp; omega) _⟩
theorem lb_ss {W w4 : World} {base lim n k : Nat} {pv hv u u' : Value} {pts : List Nat} (hx : w4.ownsRow base 97 1 pv pts.length (u64s pts)) (hl : ∀ g, pv.ownBlock = some g → g < lim) (hlt : ∀ z ∈ pts, z < 2 ^ 36) (hB : Below W.heap.size W w4) (hn : HasBox w4 n u) (hk : HasBox w4 k u') (h1 : W.heap.size ≤ n) (h2 : n < base ∨ lim ≤ n) (h3 : W.heap.size ≤ k) (h4 : k < base ∨ lim ≤ k) (hnk : n ≠ k) :
    LB W ((w4.setCell ⟨n, 0, none⟩ pv).setCell ⟨k, 0, none⟩ hv) n k pv hv pts := by
  have e1 : (⟨k, 0, none⟩ : Addr) ≠ ⟨n, 0, none⟩ := fun h => hnk (by injection h with h _ _; exact h.symm)
  have e2 : (⟨n, 0, none⟩ : Addr) ≠ ⟨k, 0, none⟩ := fun h => e1 h.symm
  exact ⟨(World.cell?_setCell_other _ _ _ _ e1).trans (World.cell?_setCell_same _ _ _ hn.1), World.cell?_setCell_same _ _ _ ((World.cell?_setCell_other _ _ _ _ e2).trans hk.1), own_parts (pts_keep (pts_keep hx hl h2) hl h4) hlt, (hB.setCell h1 _).setCell h3 _⟩

set_option maxHeartbeats 800000 in
theorem lsays_any (m : Mod) (hm : checkM m = 0) (pts : List Nat) (h g : Nat) (hh : h < 2 ^ 36) (hg : g < 2 ^ 36) (vs cs pv : Value) (bm bp bh : Nat) (w : World) (hma : MArg w vs cs m) (hp : PArg w pv pts)
    (h1 : w.cell? ⟨bm, 0, none⟩ = some vs) (h2 : w.cell? ⟨bp, 0, none⟩ = some pv) (h3 : w.cell? ⟨bh, 0, none⟩ = some (.int .u64 h)) :
    Calls Tryz.prog 56 #[.int .u64 g, .pointer (some ⟨bm, 0, none⟩), .pointer (some ⟨bp, 0, none⟩), .pointer (some ⟨bh, 0, none⟩)] w fun e w' => e = .returned (.bool (saysP m.vars pts (h ||| g))) ∧ Below w.heap.size w w' := by
  have HMA : Hid (MArg w vs cs m) := hma
  have HP : Hid (PArg w pv pts) := hp
  have HM : Hid (checkM m = 0) := hm
  have hor := bits_or_u64_nat h g (by omega) (by omega)
  have HO : Hid (h ||| g < 2 ^ 36) := or_lt36 hh hg
  obtain ⟨q, hq⟩ : ∃ q, h ||| g = q := ⟨_, rfl⟩
  rw [hq] at hor HO ⊢
  obtain ⟨⟨a1, c1, rfl, _, _⟩, _⟩ := hma
  obtain ⟨a2, c2, rfl, _, _⟩ := hp
  clear hm hq hh hg
  go_enter Tryz.func56, Tryz.ntmps56
  go_wp2_with fail
  refine (says_any m.vars (vars_all m HM.out) pts q HO.out _ _ _ HMA.out.1 HP.out).mono ?_
  rintro e w1 ⟨rfl, hb1⟩
  go_wp2
  go_ret
  exact ⟨rfl, hb1⟩
theorem enters_lsays (args : Array Value) (w' : World) : Sem.run Tryz.prog (callFunc 56 args) w' = .ok (.enter 56 args) w' := by
  simp [callFunc, go_sem, Tryz.func56, Tryz.f56]

set_option maxHeartbeats 6400000 in
set_option maxRecDepth 100000 in
theorem least_any (m : Mod) (hm : checkM m = 0) (con : Nat) (c : MCon) (hc : m.cons[con]? = some c) (s : Sto) (hs : checkV m.vars s = 0) (any : Cla) (vs cs sv u : Value) (w : World) (hma : MArg w vs cs m) (hsa : RArg w sv s) (hu : LArg w u any) (hT : TabT w) :
    Calls Tryz.prog 24 #[modV vs cs m, .int .i64 con, sv, u] w fun e w' => ∃ x, e = .returned x ∧ LArg w' x (litsP m.vars (leastP m.vars c s any)) ∧ Below w.heap.size w w' := by
  have HMA : Hid (∀ w', Below w.heap.size w w' → MArg w' vs cs m) := fun w' h => MArg.below h hma
  have HSA : Hid (∀ w', Below w.heap.size w w' → RArg w' sv s) := fun w' h => RArg.below h hsa
  have HU : Hid (∀ w', Below w.heap.size w w' → LArg w' u any) := fun w' h => LArg.below h hu
  have HT : Hid (∀ w', Below w.heap.size w w' → TabT w') := fun w' h => hT.below h
  have HM : Hid (checkM m = 0) := hm
  have HC : Hid (m.cons[con]? = some c) := hc
  have HSL : Hid (s.length = m.vars.length) := ((checkV_ok _ _).1 hs).1
  obtain ⟨⟨a1, c1, rfl, _, _⟩, ⟨a2, c2, rfl, _, _⟩⟩ := hma
  obtain ⟨a3, c3, rfl, _, _⟩ := hsa
  obtain ⟨a4, c4, rfl, _, _⟩ := hu
  unfold modV
  clear hm hc hT hs
  go_enter Tryz.func24, Tryz.ntmps24
  go_upto_region 1 with (fail)
  have HB0 : Hid (Below w.heap.size w (w.alloc (.cells #[.slice a1 m.vars.length c1, .slice a2 m.cons.length c2, .int .i64 m.goal, .int .i64 m.var] 25))) := below_alloc _ _
  have k0 : (w.alloc (.cells #[.slice a1 m.vars.length c1, .slice a2 m.cons.length c2, .int .i64 m.goal, .int .i64 m.var] 25)).cell? ⟨w.heap.size, 0, none⟩ = some (.slice a1 m.vars.length c1) := World.cell?_alloc_at _ _ _ 0 (by simp)
  have k1 : (w.alloc (.cells #[.slice a1 m.vars.length c1, .slice a2 m.cons.length c2, .int .i64 m.goal, .int .i64 m.var] 25)).cell? ⟨w.heap.size, 1, none⟩ = some (.slice a2 m.cons.length c2) := World.cell?_alloc_at _ _ _ 1 (by simp)
  have k2 : (w.alloc (.cells #[.slice a1 m.vars.length c1, .slice a2 m.cons.length c2, .int .i64 m.goal, .int .i64 m.var] 25)).cell? ⟨w.heap.size, 2, none⟩ = some (.int .i64 m.goal) := World.cell?_alloc_at _ _ _ 2 (by simp)
  have k3 : (w.alloc (.cells #[.slice a1 m.vars.length c1, .slice a2 m.cons.length c2, .int .i64 m.goal, .int .i64 m.var] 25)).cell? ⟨w.heap.size, 3, none⟩ = some (.int .i64 m.var) := World.cell?_alloc_at _ _ _ 3 (by simp)
  have l0 : w.heap.size < (w.alloc (.cells #[.slice a1 m.vars.length c1, .slice a2 m.cons.length c2, .int .i64 m.goal, .int .i64 m.var] 25)).heap.size := by simp
  obtain ⟨W, hW⟩ : ∃ W, w.alloc (.cells #[.slice a1 m.vars.length c1, .slice a2 m.cons.length c2, .int .i64 m.goal, .int .i64 m.var] 25) = W := ⟨_, rfl⟩
  rw [hW] at HB0 k0 k1 k2 k3 l0 ⊢
  clear hW
  have HTO : Hid (∀ Y, Below W.heap.size W Y → Below w.heap.size w Y) := fun Y hY => HB0.out.trans (hY.mono HB0.out.size)
  obtain ⟨pts, hpts⟩ : ∃ pts, pointsP m.vars c = pts := ⟨_, rfl⟩
  have HPTS : Hid (pointsP m.vars c = pts) := hpts
  obtain ⟨h, hh⟩ : ∃ h, heldP m.vars any = h := ⟨_, rfl⟩
  have HH : Hid (heldP m.vars any = h) := hh
  have HH36 : Hid (h < 2 ^ 36) := by rw [← hh]; exact of_lt m.vars (vars_okP m HM.out) _
  have HPT : Hid (∀ Y, Below W.heap.size W Y → Calls Tryz.prog 54 #[.agg #[.slice a1 m.vars.length c1, .slice a2 m.cons.length c2, .int .i64 m.goal, .int .i64 m.var], .int .i64 (con : Int)] Y fun e w' => ∃ x, e = .returned x ∧ w'.ownsRow Y.heap.size 97 1 x pts.length (u64s pts) ∧ Below Y.heap.size Y w') := fun Y hY => by
    rw [← HPTS.out]; exact points_own m con c _ _ Y HM.out HC.out (HMA.out _ (HTO.out _ hY))
  have HHE : Hid (∀ Y, Below W.heap.size W Y → Calls Tryz.prog 55 #[.slice a1 m.vars.length c1, .slice a4 (List.length any) c4] Y fun e w' => e = .returned (.int .u64 (h : Int)) ∧ Below Y.heap.size Y w') := fun Y hY => by
    rw [← HH.out]; exact held_any m.vars (vars_all m HM.out) any _ _ Y (HMA.out _ (HTO.out _ hY)).1 (HU.out _ (HTO.out _ hY))
  have HLT : Hid (∀ z ∈ pts, z < 2 ^ 36) := by rw [← hpts]; exact pointsP_lt m HM.out con c HC.out
  clear hpts hh
  go_cut [9, 10] (fun p q wx => ∃ (bp bh : Nat) (pv : Value), p = .pointer (some ⟨bp, 0, none⟩) ∧ q = .pointer (some ⟨bh, 0, none⟩) ∧ LB W wx bp bh pv (.int .u64 (h : Int)) pts)
  case first =>
    go_region_held3 (fun w' => Below W.heap.size W w' ∧ w'.cell? ⟨w.heap.size, 0, none⟩ = some (.slice a1 m.vars.length c1) ∧ w'.cell? ⟨w.heap.size, 1, none⟩ = some (.slice a2 m.cons.length c2) ∧ w'.cell? ⟨w.heap.size, 2, none⟩ = some (.int .i64 m.goal) ∧ w'.cell? ⟨w.heap.size, 3, none⟩ = some (.int .i64 m.var))
      ((refine (fun (hB : Below W.heap.size W _) => ⟨hB, (hB.cell (p := ⟨w.heap.size, 0, none⟩) l0).trans k0, (hB.cell (p := ⟨w.heap.size, 1, none⟩) l0).trans k1, (hB.cell (p := ⟨w.heap.size, 2, none⟩) l0).trans k2, (hB.cell (p := ⟨w.heap.size, 3, none⟩) l0).trans k3⟩ : Below W.heap.size W _ → _) ?_; first | exact (Below.refl _ _).drew | exact fen_call (by assumption) hbq | exact fen_alloc (by assumption) | ((repeat (first | refine Below.alloc ?_ ?_ _ | refine Below.setCell ?_ ?_ _)); all_goals (first | exact hB4 | exact hB3 | exact (Below.refl _ _).drew | exact Nat.le_refl _ | exact hB4.size | exact hB3.size | (have hsz4 := hB4.size; have hsz3 := hB3.size; simp; omega) | (have hsz3 := hB3.size; simp; omega) | (simp; omega) | (simp; done) | omega))))
      (first
        | (go_at_call 54; refine (HPT.out _ (show Below W.heap.size W _ ∧ _ by assumption).1).mono ?_; rintro e w3 ⟨x, rfl, hp3, hbq⟩; obtain ⟨ap, cp, rfl⟩ := own_form hp3; obtain ⟨base, HBASE, HX3⟩ : ∃ base, Hid (base = _) ∧ Hid (w3.ownsRow base 97 1 (.slice ap pts.length cp) pts.length (u64s pts)) := ⟨_, rfl, hp3⟩; clear hp3; have hB3 := fen_call (by assumption) hbq; (first | (have hbx1 := box_new hbq; have hbz : HasBox _ _ _ := hbx1; (first | (simp only [World.size_alloc] at hbz) | skip); obtain ⟨b1c, b1f, b1l⟩ := hbz) | skip); (first | (have hbx2 := box_new2 hbq; have hbz : HasBox _ _ _ := hbx2; (first | (simp only [World.size_alloc] at hbz) | skip); obtain ⟨b2c, b2f, b2l⟩ := hbz) | skip); (first | (have hbx8 := box_new (fen_drew hbq); have hbz : HasBox _ _ _ := hbx8; (first | (simp only [World.size_alloc] at hbz) | skip); obtain ⟨b1c, b1f, b1l⟩ := hbz) | skip); (first | (have hbx9 := box_new2 (fen_drew hbq); have hbz : HasBox _ _ _ := hbx9; (first | (simp only [World.size_alloc] at hbz) | skip); obtain ⟨b2c, b2f, b2l⟩ := hbz) | skip))
        | (go_at_call 55; refine (HHE.out _ (show Below W.heap.size W _ ∧ _ by assumption).1).mono ?_; rintro e w4 ⟨rfl, hbq⟩; have hB4 := fen_call (by assumption) hbq; (first | have HX4 : Hid (w4.ownsRow base 97 1 (.slice ap pts.length cp) pts.length (u64s pts)) := own_below HX3.out hbq | have HX4 : Hid (w4.ownsRow base 97 1 (.slice ap pts.length cp) pts.length (u64s pts)) := own_below (World.ownsRow.alloc HX3.out _) hbq | have HX4 : Hid (w4.ownsRow base 97 1 (.slice ap pts.length cp) pts.length (u64s pts)) := own_below (World.ownsRow.alloc (World.ownsRow.alloc HX3.out _) _) hbq); (first | (have hbx3 := box_old hbq ⟨b1c, b1f, b1l⟩; have hbz : HasBox _ _ _ := hbx3; (first | (simp only [World.size_alloc] at hbz) | skip); obtain ⟨o1c, o1f, o1l⟩ := hbz) | skip); (first | (have hbx4 := box_oldA hbq ⟨b1c, b1f, b1l⟩; have hbz : HasBox _ _ _ := hbx4; (first | (simp only [World.size_alloc] at hbz) | skip); obtain ⟨o1c, o1f, o1l⟩ := hbz) | skip); (first | (have hbx5 := box_old hbq ⟨b2c, b2f, b2l⟩; have hbz : HasBox _ _ _ := hbx5; (first | (simp only [World.size_alloc] at hbz) | skip); obtain ⟨o2c, o2f, o2l⟩ := hbz) | skip); (first | (have hbx6 := box_new hbq; have hbz : HasBox _ _ _ := hbx6; (first | (simp only [World.size_alloc] at hbz) | skip); obtain ⟨b3c, b3f, b3l⟩ := hbz) | skip); (first | (have hbx7 := box_new2 hbq; have hbz : HasBox _ _ _ := hbx7; (first | (simp only [World.size_alloc] at hbz) | skip); obtain ⟨b4c, b4f, b4l⟩ := hbz) | skip)))
    all_goals (go_wp2_with fail; go_meet)
    all_goals
      have hbb := HBASE.out
      (first | (simp only [World.size_alloc, drew_sizeE] at hbb) | skip)
      have hs3 := hB3.size
      have hs4 := hB4.size
      have hlim : ∀ g, (Value.slice ap pts.length cp).ownBlock = some g → g < w3.heap.size := fun g hg => (HX3.out.lt g hg).2
    all_goals first
      | with_reducible exact ⟨_, _, _, rfl, rfl, lb_aa1 HX4.out HLT.out hB4⟩
      | with_reducible exact ⟨_, _, _, rfl, rfl, lb_aa2 HX4.out HLT.out hB4⟩
      | with_reducible exact ⟨_, _, _, rfl, rfl, lb_sa1 HX4.out hlim HLT.out hB4 ⟨o1c, o1f, o1l⟩ (by omega) (by omega)⟩
      | with_reducible exact ⟨_, _, _, rfl, rfl, lb_sa2 HX4.out hlim HLT.out hB4 ⟨o1c, o1f, o1l⟩ (by omega) (by omega)⟩
      | with_reducible exact ⟨_, _, _, rfl, rfl, lb_sa1 HX4.out hlim HLT.out hB4 ⟨b3c, b3f, b3l⟩ (by omega) (by omega)⟩
      | with_reducible exact ⟨_, _, _, rfl, rfl, lb_sa2 HX4.out hlim HLT.out hB4 ⟨b3c, b3f, b3l⟩ (by omega) (by omega)⟩
      | with_reducible exact ⟨_, _, _, rfl, rfl, lb_ss HX4.out hlim HLT.out hB4 ⟨o1c, o1f, o1l⟩ ⟨o2c, o2f, o2l⟩ (by omega) (by omega) (by omega) (by omega) (by omega)⟩
      | with_reducible exact ⟨_, _, _, rfl, rfl, lb_ss HX4.out hlim HLT.out hB4 ⟨o2c, o2f, o2l⟩ ⟨o1c, o1f, o1l⟩ (by omega) (by omega) (by omega) (by omega) (by omega)⟩
      | with_reducible exact ⟨_, _, _, rfl, rfl, lb_ss HX4.out hlim HLT.out hB4 ⟨o1c, o1f, o1l⟩ ⟨b3c, b3f, b3l⟩ (by omega) (by omega) (by omega) (by omega) (by omega)⟩
      | with_reducible exact ⟨_, _, _, rfl, rfl, lb_ss HX4.out hlim HLT.out hB4 ⟨b3c, b3f, b3l⟩ ⟨o1c, o1f, o1l⟩ (by omega) (by omega) (by omega) (by omega) (by omega)⟩
      | with_reducible exact ⟨_, _, _, rfl, rfl, lb_ss HX4.out hlim HLT.out hB4 ⟨b4c, b4f, b4l⟩ ⟨b3c, b3f, b3l⟩ (by omega) (by omega) (by omega) (by omega) (by omega)⟩
      | with_reducible exact ⟨_, _, _, rfl, rfl, lb_ss HX4.out hlim HLT.out hB4 ⟨b3c, b3f, b3l⟩ ⟨b4c, b4f, b4l⟩ (by omega) (by omega) (by omega) (by omega) (by omega)⟩
  case rest =>
    obtain ⟨bp, bh, pv, hp9, hp10, hlb⟩ := hcut
    subst hp9
    subst hp10
    obtain ⟨p0, p1, hpa, hbc⟩ := hlb
    have HBC : Hid (Below W.heap.size W wc) := hbc
    have HPA : Hid (∀ Y, Below wc.heap.size wc Y → PArg Y pv pts) := fun Y hY => PArg.below hY hpa
    have HTC : Hid (∀ Y, Below wc.heap.size wc Y → Below w.heap.size w Y) := fun Y hY => HTO.out _ (HBC.out.trans (hY.mono HBC.out.size))
    have j0 := (hbc.cell (p := ⟨w.heap.size, 0, none⟩) l0).trans k0
    have jl : w.heap.size < wc.heap.size := Nat.lt_of_lt_of_le l0 hbc.size
    have HP0 : Hid (∀ Y, Below wc.heap.size wc Y → Y.cell? ⟨w.heap.size, 0, none⟩ = some (.slice a1 m.vars.length c1) ∧ Y.cell? ⟨bp, 0, none⟩ = some pv ∧ Y.cell? ⟨bh, 0, none⟩ = some (.int .u64 (h : Int)) ∧ w.heap.size < Y.heap.size) := fun Y hY =>
      ⟨(hY.cell (p := ⟨w.heap.size, 0, none⟩) jl).trans j0, (hY.cell (p := ⟨bp, 0, none⟩) (World.block_lt_of_cell? wc _ p0)).trans p0, (hY.cell (p := ⟨bh, 0, none⟩) (World.block_lt_of_cell? wc _ p1)).trans p1, Nat.lt_of_lt_of_le jl hY.size⟩
    obtain ⟨q, hq⟩ : ∃ q, wholeP m.vars = q := ⟨_, rfl⟩
    obtain ⟨t, ht⟩ : ∃ t, storedP m.vars s = t := ⟨_, rfl⟩
    obtain ⟨g0, hg0⟩ : ∃ g0, goneP m.vars s = g0 := ⟨_, rfl⟩
    have HQ36 : Hid (q < 2 ^ 36) := by rw [← hq]; exact of_lt m.vars (vars_okP m HM.out) _
    have HT36 : Hid (t < 2 ^ 36) := by rw [← ht]; exact of_lt m.vars (vars_okP m HM.out) _
    have HG36 : Hid (g0 < 2 ^ 36) := by rw [← hg0]; unfold goneP; rw [hq]; exact less_lt 36 _ _ HQ36.out
    have HGW : Hid (∀ i, g0.testBit i = true → (wholeP m.vars).testBit i = true) := fun i hi => gone_whole m.vars s i (by rw [hg0]; exact hi)
    have hbits := bits_andNot_u64 q t (by have := HQ36.out; omega) (by have := HT36.out; omega)
    have hgl : lessN q t = g0 := by rw [← hg0, ← hq, ← ht]; rfl
    rw [hgl] at hbits
    have HQ : Hid (wholeP m.vars = q) := hq
    have HTT : Hid (storedP m.vars s = t) := ht
    have HLE : Hid (leastP m.vars c s any = spareP (fun g => saysP m.vars pts (h ||| g)) (g0 + 1) g0 g0) := by show _ = _; rw [← hg0, ← HPTS.out, ← HH.out]; rfl
    have HWH : Hid (∀ Y, Below wc.heap.size wc Y → Calls Tryz.prog 58 #[.slice a1 m.vars.length c1] Y fun e w' => e = .returned (.int .u64 (q : Int)) ∧ Below Y.heap.size Y w') := fun Y hY => by
      rw [← HQ.out]; exact whole_any m.vars (vars_all m HM.out) _ Y (HMA.out _ (HTC.out _ hY)).1
    have HSD : Hid (∀ Y, Below wc.heap.size wc Y → Calls Tryz.prog 59 #[.slice a1 m.vars.length c1, .slice a3 (List.length s) c3] Y fun e w' => e = .returned (.int .u64 (t : Int)) ∧ Below Y.heap.size Y w') := fun Y hY => by
      rw [← HTT.out]; exact stored_any m.vars (vars_all m HM.out) s HSL.out _ _ Y (HMA.out _ (HTC.out _ hY)).1 (HSA.out _ (HTC.out _ hY))
    clear hpa hbc hq ht hg0 hgl k0 k1 k2 k3 l0 p0 p1
    go_wp2_with fail
    go_region_held3 (fun w' => Below wc.heap.size wc w' ∧ w'.cell? ⟨w.heap.size, 0, none⟩ = some (.slice a1 m.vars.length c1))
      ((refine (fun (hB : Below wc.heap.size wc _) => ⟨hB, (hB.cell (p := ⟨w.heap.size, 0, none⟩) jl).trans j0⟩ : Below wc.heap.size wc _ → _) ?_; first | exact (Below.refl _ _).drew | exact fen_call (by assumption) hbq))
      (first
        | (go_at_call 58; refine (HWH.out _ (show Below wc.heap.size wc _ ∧ _ by assumption).1).mono ?_; rintro e w5 ⟨rfl, hbq⟩; have hB5 := fen_call (by assumption) hbq)
        | (go_at_call 59; refine (HSD.out _ (show Below wc.heap.size wc _ ∧ _ by assumption).1).mono ?_; rintro e w6 ⟨rfl, hbq⟩; have hB6 := fen_call (by assumption) hbq))
    have HB6 : Hid (Below wc.heap.size wc w6) := hB6
    clear hbq hB6 hB5 j0 jl hbits
    go_wp2_with fail
    go_loopw [12, 13] (fun g r wr => ∃ gg rr : Nat, g = .int .u64 (gg : Int) ∧ r = .int .u64 (rr : Int) ∧ Hid (gg < 2 ^ 36) ∧ Hid (rr < 2 ^ 36) ∧ Hid (leastP m.vars c s any = spareP (fun g => saysP m.vars pts (h ||| g)) (rr + 1) gg rr) ∧ Hid (∀ i, gg.testBit i = true → (wholeP m.vars).testBit i = true) ∧ Hid (Below wc.heap.size wc wr)) (fun _ r _ => (intOf r).toNat)
    case atStart => exact ⟨g0, g0, rfl, rfl, HG36, HG36, HLE, HGW, HB6⟩
    case round =>
      obtain ⟨gg, rr, rfl, rfl, hg36, hr36, hle, hgw, hbw⟩ := hrel
      obtain ⟨i0, i1, i2, il⟩ := HP0.out _ hbw.out
      by_cases hr0 : rr = 0
      · subst hr0
        have HEQ : Hid (leastP m.vars c s any = gg) := by show _ = _; rw [hle.out]; rfl
        clear hle
        go_wp2_with fail
        refine (flits_any m.vars (vars_all m HM.out) gg hgw.out _ _ (HMA.out _ (HTC.out _ hbw.out)).1 (HT.out _ (HTC.out _ hbw.out))).mono ?_
        rintro e w7 ⟨x, rfl, hx, hb7⟩
        have HX : Hid (LArg w7 x (litsP m.vars (leastP m.vars c s any))) := by rw [HEQ.out]; exact hx.arg
        obtain ⟨ax, cx, rfl⟩ := own_form (show w7.ownsRow _ _ _ _ _ _ from hx)
        have HB7 : Hid (Below w.heap.size w w7) := HTC.out _ (hbw.out.trans (hb7.mono hbw.out.size))
        clear hx hb7
        go_wp2
        go_ret
        exact ⟨_, rfl, HX.out, HB7.out⟩
      · have HST : Hid (leastP m.vars c s any = spareP (fun g => saysP m.vars pts (h ||| g)) ((rr &&& (rr - 1)) + 1) (if saysP m.vars pts (h ||| lessN gg (2 ^ Lib.ctz 64 rr)) then lessN gg (2 ^ Lib.ctz 64 rr) else gg) (rr &&& (rr - 1))) := by
          show _ = _
          rw [hle.out]; exact spare_step _ gg rr hr0 (by have := hr36.out; omega)
        obtain ⟨hlow, hk⟩ := Lib.lowest_bit 64 rr hr0 (by have := hr36.out; omega)
        have hless := low_less rr hr0 (by have := hr36.out; omega)
        obtain ⟨hk36⟩ : Nonempty (Lib.ctz 64 rr < 36) := ⟨(bitsL_step rr hr0 hr36.out).2⟩
        have hpow : 2 ^ Lib.ctz 64 rr < 2 ^ 36 := Nat.pow_lt_pow_right (by omega) hk36
        obtain ⟨tt, htt⟩ : ∃ tt, 2 ^ Lib.ctz 64 rr = tt := ⟨_, rfl⟩
        rw [htt] at hlow hpow HST
        have hneg : IntKind.u64.wrap (-(rr : Int)) = ((18446744073709551616 - rr : Nat) : Int) := by rw [IntKind.wrap_u64]; have := hr36.out; omega
        have hand := bits_and_u64_nat rr (18446744073709551616 - rr) (by have := hr36.out; omega) (by omega)
        have hlow' : rr &&& (18446744073709551616 - rr) = tt := hlow
        rw [hlow'] at hand
        obtain ⟨N0, hN0⟩ : ∃ N0, 18446744073709551616 - rr = N0 := ⟨_, rfl⟩
        rw [hN0] at hneg hand
        have hnot := bits_andNot_u64 gg tt (by have := hg36.out; omega) (by omega)
        obtain ⟨sp, hsp⟩ : ∃ sp, lessN gg tt = sp := ⟨_, rfl⟩
        have HSP36 : Hid (sp < 2 ^ 36) := by rw [← hsp]; exact less_lt 36 _ _ hg36.out
        have HSW : Hid (∀ i, sp.testBit i = true → (wholeP m.vars).testBit i = true) := fun i hi => by
          rw [← hsp, testBit_less, Bool.and_eq_true] at hi
          exact hgw.out i hi.1
        rw [hsp] at hnot HST
        obtain ⟨r2, hr2⟩ : ∃ r2, rr &&& (rr - 1) = r2 := ⟨_, rfl⟩
        have hsub : IntKind.u64.wrap ((rr : Int) - 1) = ((rr - 1 : Nat) : Int) := by rw [IntKind.wrap_u64]; have := hr36.out; omega
        have hand2 := bits_and_u64_nat rr (rr - 1) (by have := hr36.out; omega) (by have := hr36.out; omega)
        obtain ⟨r1, hr1⟩ : ∃ r1, rr - 1 = r1 := ⟨_, rfl⟩
        rw [hr2] at hand2 hless HST
        rw [hr1] at hsub hand2
        have HR236 : Hid (r2 < 2 ^ 36) := by have := hr36.out; show _ < _; omega
        have HLS : Hid (r2 < rr) := hless
        have hne : ((rr : Int) != 0) = true := by simpa using hr0
        obtain ⟨B, hB⟩ : ∃ B, saysP m.vars pts (h ||| sp) = B := ⟨_, rfl⟩
        have HSY : Hid (Calls Tryz.prog 56 #[.int .u64 (sp : Int), .pointer (some ⟨w.heap.size, 0, none⟩), .pointer (some ⟨bp, 0, none⟩), .pointer (some ⟨bh, 0, none⟩)] wr fun e w' => e = .returned (.bool B) ∧ Below wr.heap.size wr w') := by
          rw [← hB]
          exact lsays_any m HM.out pts h sp HH36.out HSP36.out _ _ pv w.heap.size bp bh wr (HMA.out _ (HTC.out _ hbw.out)) (HPA.out _ hbw.out) i0 i1 i2
        rw [hB] at HST
        have HGWK : Hid (∀ i, gg.testBit i = true → (wholeP m.vars).testBit i = true) := hgw.out
        clear hle hr0 hlow hk hk36 hpow htt hlow' hN0 hsp hr2 hr1 hless hB hgw
        cases B
        · have HS2 : Hid (leastP m.vars c s any = spareP (fun g => saysP m.vars pts (h ||| g)) (r2 + 1) gg r2) := by show _ = _; rw [HST.out]; rfl
          clear HST
          go_wp2_with fail
          refine HSY.out.mono ?_
          rintro e w7 ⟨rfl, hb7⟩
          have HB7 : Hid (Below wc.heap.size wc w7) := hbw.out.trans (hb7.mono hbw.out.size)
          clear hb7 i0 i1 i2 il
          go_wp2
          go_roundw
          case rel => exact ⟨gg, r2, rfl, rfl, hg36, HR236, HS2, HGWK, HB7⟩
          case measure => simp [intOf]; exact HLS.out
        · have HS2 : Hid (leastP m.vars c s any = spareP (fun g => saysP m.vars pts (h ||| g)) (r2 + 1) sp r2) := by show _ = _; rw [HST.out]; rfl
          clear HST
          go_wp2_with fail
          refine HSY.out.mono ?_
          rintro e w7 ⟨rfl, hb7⟩
          have HB7 : Hid (Below wc.heap.size wc w7) := hbw.out.trans (hb7.mono hbw.out.size)
          clear hb7 i0 i1 i2 il
          go_wp2
          go_roundw
          case rel => exact ⟨sp, r2, rfl, rfl, HSP36, HR236, HS2, HSW, HB7⟩
          case measure => simp [intOf]; exact HLS.out
end Go.Proofs.YtddaebbllhiidaeGreatDoor
/-
  Sets of pairs of numbers: a map whose keys are arrays of two.
-/
namespace Go.Proofs.YtddaebbllhiidaeGreatDoor
open Go.RowKit Go.Maps

theorem Tryz.pairUnder : Tryz.prog.underlying 82 = some (.array 2 3) := by kernel_rfl
theorem Tryz.pairWide : (match Tryz.prog.underlying 82 with | some (.array _ _) | some (.struct _) => true | _ => false) = true := by rw [Tryz.pairUnder]
theorem Tryz.pairRow : (82 : Nat) < Tryz.prog.types.size := of_decide_eq_true (by kernel_rfl)
theorem Tryz.pairLaid : laidOutB Tryz.prog = true := by kernel_rfl
theorem Tryz.pairCells : Tryz.prog.cellsOf 82 = 2 := by kernel_rfl
theorem Tryz.pairCell : Tryz.prog.cellsOf 3 = 1 := by kernel_rfl
set_option maxRecDepth 100000 in
theorem Tryz.pairKeyed : Keyed Tryz.prog 82 := Keyed.of_law (deep_law_laid Tryz.pairLaid (m := 2) (by omega) Tryz.pairRow (by kernel_rfl) Tryz.pairWide)
theorem Tryz.pairType : Tryz.prog.keyType 82 = true := by kernel_rfl
theorem Tryz.unitZero (w : World) : (zeroValue 80).run Tryz.prog w = .ok (.agg #[]) w := by kernel_rfl

/-- What such a key reads as. -/
def pairK (a b : Int) : Lit := .string (keyBytes [.int .i64 a, .int .i64 b])
def okInt (a : Int) : Prop := -1000000 ≤ a ∧ a ≤ 1000000
theorem ok_wf {a : Int} (h : okInt a) : (Lit.int .i64 a).wf = true := WalkArith.wf_i64 (by unfold okInt at h; omega)
theorem pair_lits (d : Nat) (a b : Int) (ha : okInt a) (hb : okInt b) : Tryz.prog.keyLits (d + 2) 82 [.int .i64 a, .int .i64 b] = some [.int .i64 a, .int .i64 b] := by
  have h0 : Tryz.prog.underlying 3 = some (.int .i64) := Tryz.underlying3
  unfold Program.keyLits
  simp only [Tryz.pairUnder, Tryz.pairCells, Tryz.pairCell]
  simp [List.range_succ, Program.keyLits, h0, ok_wf ha, ok_wf hb]
theorem keyOf_pair (a b : Int) (ha : okInt a) (hb : okInt b) : keyOf Tryz.prog 82 (.agg #[.int .i64 a, .int .i64 b]) = some (pairK a b) := by
  have hf : (Value.agg #[.int .i64 a, .int .i64 b]).formed Tryz.prog 82 = true := by simp [Value.formed, Tryz.pairCells]
  have hs : ∃ d, Tryz.prog.types.size + 1 = d + 2 := ⟨Tryz.prog.types.size - 1, by have := Tryz.pairRow; omega⟩
  obtain ⟨d, hd⟩ := hs
  unfold keyOf
  rw [Tryz.pairUnder]
  simp only [Tryz.pairType, hf, Bool.and_self, if_true]
  rw [hd]
  show Option.map _ (Tryz.prog.keyLits (d + 2) 82 [.int .i64 a, .int .i64 b]) = _
  rw [pair_lits d a b ha hb]
  rfl
theorem pairK_inj {a b c d : Int} (ha : okInt a) (hb : okInt b) (hc : okInt c) (hd : okInt d) (h : pairK a b = pairK c d) : a = c ∧ b = d := by
  have h1 := keyOf_pair a b ha hb
  have h2 := keyOf_pair c d hc hd
  rw [← h] at h2
  have := Tryz.pairKeyed.inj h1 h2
  simp at this
  exact this

def okPair (p : Int × Int) : Prop := okInt p.1 ∧ okInt p.2
def setP {H : Type} (l : List (Int × Int)) : DataW H := setOf (.agg []) (l.map fun p => pairK p.1 p.2)
theorem setP_next {H : Type} (l : List (Int × Int)) (p : Int × Int) : setP (H := H) (l ++ [p]) = (setP l).put (pairK p.1 p.2) (.agg []) := by
  unfold setP; rw [List.map_append]; exact setOf_snoc _ _ _
theorem has_setP {H : Type} (l : List (Int × Int)) (p : Int × Int) (hl : ∀ q ∈ l, okPair q) (hp : okPair p) : Maps.has (setP (H := H) l) (pairK p.1 p.2) = l.contains p := by
  unfold setP
  rw [has_setOf _ _ _ (fun y hy => by obtain ⟨q, _, rfl⟩ := List.mem_map.1 hy; unfold pairK; trivial), List.any_map]
  rw [Bool.eq_iff_iff, List.any_eq_true, List.contains_iff_mem]
  constructor
  · rintro ⟨q, hq, he⟩
    have he2 : pairK q.1 q.2 = pairK p.1 p.2 := WideAt.sameKey_eq he
    obtain ⟨h1, h2⟩ := pairK_inj (hl q hq).1 (hl q hq).2 hp.1 hp.2 he2
    have : q = p := Prod.ext h1 h2
    rw [← this]; exact hq
  · intro h
    refine ⟨p, h, ?_⟩
    show (pairK p.1 p.2).sameKey (pairK p.1 p.2) = true
    exact WideAt.sameKey_self (by unfold pairK; trivial)
end Go.Proofs.YtddaebbllhiidaeGreatDoor
/-
  A trial of values: how it lies in memory. WALK: package filter: meet.
-/
namespace Go.Proofs.YtddaebbllhiidaeGreatDoor
open Go.RowKit Go.Maps

theorem Tryz.underPairs : Tryz.prog.underlying 75 = some (.map 82 80) := by kernel_rfl
def trialObj (c : MCon) (vv vc vr vl sv stv : Value) (V n M : Nat) : Obj :=
  .cells #[.int .i64 c.kind, vv, vc, .int .i64 c.n, vr, vl, sv, stv, .slice (some ⟨V, 0, none⟩) n n, .map (some M)] 77
def TrialS (N B V M : Nat) (c : MCon) (vv vc vr vl sv stv : Value) (scope : List Int) (s : Sto) (vals : List Int) (l : List (Int × Int)) (w : World) : Prop :=
  (N ≤ B ∧ N ≤ V ∧ N ≤ M ∧ B ≠ V ∧ B ≠ M ∧ V ≠ M) ∧
  w.heap[B]? = some (trialObj c vv vc vr vl sv stv V vals.length M) ∧
  Old N w (fun u => KArg u vv vc vr vl c ∧ IArg u sv scope ∧ RArg u stv s) ∧
  w.ownsRow N 3 1 (.slice (some ⟨V, 0, none⟩) vals.length vals.length) vals.length (vals.map (Value.int .i64)) ∧
  w.ownsMap Tryz.prog 82 unitElem M l.length (setP (H := Unit) l)

section
variable {N B V M : Nat} {c : MCon} {vv vc vr vl sv stv : Value} {scope : List Int} {s : Sto} {vals : List Int} {l : List (Int × Int)} {w w' : World}
theorem TrialS.lts (h : TrialS N B V M c vv vc vr vl sv stv scope s vals l w) : B < w.heap.size ∧ V < w.heap.size ∧ M < w.heap.size ∧ N ≤ w.heap.size := by
  obtain ⟨⟨h1, _⟩, h2, _, h4, ⟨es, cl, h5, _⟩⟩ := h
  have hb := (Array.getElem?_eq_some_iff.1 h2).1
  have hm := (Array.getElem?_eq_some_iff.1 h5).1
  exact ⟨hb, (h4.lt V rfl).2, hm, by omega⟩
theorem TrialS.below (h : TrialS N B V M c vv vc vr vl sv stv scope s vals l w) (hb : Below w.heap.size w w') : TrialS N B V M c vv vc vr vl sv stv scope s vals l w' := by
  obtain ⟨l1, l2, l3, l4⟩ := h.lts
  obtain ⟨h1, h2, h3, h4, ⟨es, cl, h5, r⟩⟩ := h
  exact ⟨h1, (hb.block B l1).trans h2, h3.below (hb.mono l4), own_below h4 hb, ⟨es, cl, (hb.block M l3).trans h5, r⟩⟩
theorem TrialS.drew (h : TrialS N B V M c vv vc vr vl sv stv scope s vals l w) : TrialS N B V M c vv vc vr vl sv stv scope s vals l w.drew := h.below (Below.refl _ _).drew
theorem TrialS.parts (h : TrialS N B V M c vv vc vr vl sv stv scope s vals l w) : KArg w vv vc vr vl c ∧ IArg w sv scope ∧ RArg w stv s := by
  obtain ⟨_, _, ⟨w0, h1, ⟨k1, k2, k3⟩, h3⟩, _, _⟩ := h
  exact ⟨KArg.below h3 k1, IArg.below h3 k2, RArg.below h3 k3⟩
theorem TrialS.vals_arg (h : TrialS N B V M c vv vc vr vl sv stv scope s vals l w) : IArg w (.slice (some ⟨V, 0, none⟩) vals.length vals.length) vals := own_ints h.2.2.2.1
/-- One more key. -/
theorem TrialS.put (h : TrialS N B V M c vv vc vr vl sv stv scope s vals l w) (p : Int × Int) (hm : w'.ownsMap Tryz.prog 82 unitElem M (l.length + 1) (setP (H := Unit) (l ++ [p]))) (hg : w.grownBy w' (some M)) :
    TrialS N B V M c vv vc vr vl sv stv scope s vals (l ++ [p]) w' ∧ Below N w w' := by
  obtain ⟨l1, l2, l3, l4⟩ := h.lts
  obtain ⟨⟨n1, n2, n3, n4, n5, n6⟩, h2, h3, h4, _⟩ := h
  have hb : Below N w w' := (Below.refl _ _).grown hg l4 (fun k hk => by cases hk; exact n3)
  refine ⟨⟨⟨n1, n2, n3, n4, n5, n6⟩, (hg.block B l1 (fun h => n5 (Option.some.inj h))).trans h2, h3.below hb, h4.kept hg (Or.inr fun h => n6 (Option.some.inj h)), by rw [List.length_append]; exact hm⟩, hb⟩
/-- One value set. -/
theorem TrialS.set (h : TrialS N B V M c vv vc vr vl sv stv scope s vals l w) (k : Nat) (x : Int) :
    TrialS N B V M c vv vc vr vl sv stv scope s (vals.set k x) l (w.setCell ⟨V, k, none⟩ (.int .i64 x)) ∧ Below N w (w.setCell ⟨V, k, none⟩ (.int .i64 x)) := by
  obtain ⟨l1, l2, l3, l4⟩ := h.lts
  obtain ⟨⟨n1, n2, n3, n4, n5, n6⟩, h2, h3, h4, ⟨es, cl, h5, r⟩⟩ := h
  have hb : Below N w (w.setCell ⟨V, k, none⟩ (.int .i64 x)) := (Below.refl _ _).setCell n2 _
  refine ⟨⟨⟨n1, n2, n3, n4, n5, n6⟩, ?_, h3.below hb, ?_, ⟨es, cl, (Below.heap_setCell _ _ _ _ (fun h => n6 h.symm)).trans h5, r⟩⟩, hb⟩
  · rw [List.length_set]; exact (Below.heap_setCell _ _ _ _ n4).trans h2
  · have := (h4.stored k (.int .i64 x)).1
    rw [List.length_set, List.map_set]
    exact this
end

theorem keys_next (scope vals : List Int) (k : Nat) (v : Int) (h : scope[k]? = some v) : keysOf (scope.take (k + 1)) vals = keysOf (scope.take k) vals ++ [(v, valAt vals v)] := by
  unfold keysOf; rw [List.take_add_one, h, List.map_append]; rfl

set_option maxHeartbeats 1600000 in
set_option maxRecDepth 100000 in
theorem meet_any (N B V M : Nat) (c : MCon) (vv vc vr vl sv stv : Value) (scope : List Int) (s : Sto) (vals : List Int) (l : List (Int × Int)) (w : World)
    (hT : TrialS N B V M c vv vc vr vl sv stv scope s vals l w) (hsc : ∀ v ∈ scope, 0 ≤ v ∧ v < vals.length) (hvb : ∀ x ∈ vals, -50 ≤ x ∧ x ≤ 50) (hn : scope.length ≤ 8) (hv6 : vals.length ≤ 6) (hbud : l.length + scope.length ≤ 1000000000) :
    Calls Tryz.prog 78 #[.pointer (some ⟨B, 0, none⟩)] w fun e w' => e = .returned (.tuple #[]) ∧ TrialS N B V M c vv vc vr vl sv stv scope s vals (l ++ keysOf scope vals) w' ∧ Below N w w' := by
  obtain ⟨asv, csv, hsv, hms, _⟩ := hT.parts.2.1
  subst hsv
  unfold maxLen at hms
  obtain ⟨hms1, hms⟩ := hms
  have b6 := bk_cell hT.2.1 6 _ rfl
  have HT : Hid (TrialS N B V M c vv vc vr vl (.slice asv scope.length csv) stv scope s vals l w) := hT
  have HSC : Hid (∀ v ∈ scope, 0 ≤ v ∧ v < (vals.length : Int)) := hsc
  have HVB : Hid (∀ x ∈ vals, -50 ≤ x ∧ x ≤ 50) := hvb
  clear hT hsc hvb
  go_enter Tryz.func78, Tryz.ntmps78
  go_wp2_with fail
  clear b6
  go_loopw [9] (fun i wr => ∃ k : Nat, k ≤ scope.length ∧ i = .int .i64 k ∧ TrialS N B V M c vv vc vr vl (.slice asv scope.length csv) stv scope s vals (l ++ keysOf (scope.take k) vals) wr ∧ Below N w wr) (fun i _ => scope.length - (intOf i).toNat)
  case atStart => exact ⟨0, by omega, rfl, by simpa [keysOf] using HT.out, Below.refl _ _⟩
  case round =>
    obtain ⟨k, hk, rfl, hTr, hbw⟩ := hrel
    have HTR : Hid (TrialS N B V M c vv vc vr vl (.slice asv scope.length csv) stv scope s vals (l ++ keysOf (scope.take k) vals) wr) := hTr
    have HBW : Hid (Below N w wr) := hbw
    clear hTr hbw
    by_cases hlt : k < scope.length
    · obtain ⟨z, hz⟩ : ∃ z, scope[k]? = some z := ⟨scope[k], by simp [hlt]⟩
      obtain ⟨hz0, hz1⟩ := HSC.out z (List.mem_of_getElem? hz)
      obtain ⟨j, rfl⟩ : ∃ j : Nat, z = (j : Int) := ⟨z.toNat, by omega⟩
      have hjl : j < vals.length := by omega
      obtain ⟨y, hy⟩ : ∃ y, vals[j]? = some y := ⟨vals[j], by simp [hjl]⟩
      have hyb := HVB.out y (List.mem_of_getElem? hy)
      obtain ⟨a', c', hva, _, hrc⟩ := HTR.out.parts.2.1
      obtain ⟨bs, os, hax, hbs, e0⟩ := hrc k _ hz
      have has : asv = some ⟨bs, os, none⟩ := by injection hva with e1; exact e1.trans hax
      subst has
      have c9 := bk_cell HTR.out.2.1 9 _ rfl
      have c8 := bk_cell HTR.out.2.1 8 _ rfl
      have HOW := HTR.out.2.2.2.1
      have cv : wr.cell? ⟨V, j, none⟩ = some (.int .i64 y) := by rw [HOW.cellAt j (by omega), List.getElem?_map, hy]; rfl
      obtain ⟨l1, l2, l3, l4⟩ := HTR.out.lts
      have hkey : keyOf Tryz.prog 82 (.agg #[.int .i64 (j : Int), .int .i64 y]) = some (pairK (j : Int) y) := keyOf_pair _ _ (by unfold okInt; omega) (by unfold okInt; omega)
      have hlen : (l ++ keysOf (scope.take k) vals).length < maxLen := by
        have : (keysOf (scope.take k) vals).length ≤ scope.length := by unfold keysOf; simp; omega
        rw [List.length_append]; unfold maxLen; omega
      obtain ⟨w1, hrun, hown1, hturn⟩ := World.ownsMap.store (w := wr.drew) HTR.out.drew.2.2.2.2 Tryz.pairKeyed Tryz.underPairs hlen hkey unitElem_mk
      have hgr := hturn.grown
      have hne : (B ≠ M ∧ V ≠ M) := ⟨HTR.out.1.2.2.2.2.1, HTR.out.1.2.2.2.2.2⟩
      have f9 : w1.cell? ⟨B, 9, none⟩ = some (.map (some M)) := hgr.cell (a := ⟨B, 9, none⟩) c9 (fun h => hne.1 (Option.some.inj h))
      have f8 : w1.cell? ⟨B, 8, none⟩ = some (.slice (some ⟨V, 0, none⟩) vals.length vals.length) := hgr.cell (a := ⟨B, 8, none⟩) c8 (fun h => hne.1 (Option.some.inj h))
      have fv : w1.cell? ⟨V, j, none⟩ = some (.int .i64 y) := hgr.cell (a := ⟨V, j, none⟩) cv (fun h => hne.2 (Option.some.inj h))
      have HPUT : Hid (TrialS N B V M c vv vc vr vl (.slice (some ⟨bs, os, none⟩) scope.length csv) stv scope s vals ((l ++ keysOf (scope.take k) vals) ++ [((j : Int), y)]) w1 ∧ Below N wr.drew w1) := HTR.out.drew.put ((j : Int), y) (by rw [setP_next]; exact hown1) hgr
      have HNX : Hid (keysOf (scope.take (k + 1)) vals = keysOf (scope.take k) vals ++ [((j : Int), y)]) := by
        show _ = _; rw [keys_next scope vals k _ hz, valAt_get vals j y hy]
      clear hz hy hva hrc hax HOW hkey hlen hown1 hturn hgr hne hz0 hz1
      go_wp2_with fail
      go_region_held3 (fun w' => w'.cell? ⟨B, 9, none⟩ = some (.map (some M)) ∧ w'.cell? ⟨B, 8, none⟩ = some (.slice (some ⟨V, 0, none⟩) vals.length vals.length) ∧ w'.cell? ⟨V, j, none⟩ = some (.int .i64 y)) (first | exact ⟨c9, c8, cv⟩ | exact ⟨f9, f8, fv⟩) (fail)
      go_wp2
      go_roundw
      case rel => exact ⟨k + 1, by omega, by go_num, by rw [HNX.out, ← List.append_assoc]; exact HPUT.out.1, HBW.out.trans ⟨HPUT.out.2.os, HPUT.out.2.tape, HPUT.out.2.output, HPUT.out.2.size, HPUT.out.2.block⟩⟩
      case measure => simp [intOf]; omega
    · have HF : Hid (TrialS N B V M c vv vc vr vl (.slice asv scope.length csv) stv scope s vals (l ++ keysOf scope vals) wr) := by
        have h := HTR.out
        rwa [List.take_of_length_le (by omega)] at h
      go_wp2
      go_end0
      exact ⟨rfl, HF.out, HBW.out⟩
end Go.Proofs.YtddaebbllhiidaeGreatDoor
/-
  WALK: package filter: from.
-/
namespace Go.Proofs.YtddaebbllhiidaeGreatDoor
open Go.RowKit Go.Maps

theorem reach_count (s : Sto) (h6 : ∀ r ∈ s, r.length ≤ 6) : ∀ (r vals : List Int), (reach s r vals).length ≤ 6 ^ r.length
  | [], vals => by simp [reach]
  | v :: r, vals => by
    unfold reach
    have hrow : (s.getD v.toNat []).length ≤ 6 := by
      rw [List.getD_eq_getElem?_getD]
      cases hq : s[v.toNat]? with
      | none => simp
      | some q => exact h6 q (List.mem_of_getElem? hq)
    have key : ∀ q : List Int, (q.flatMap fun x => reach s r (vals.set v.toNat x)).length ≤ q.length * 6 ^ r.length := by
      intro q
      induction q with
      | nil => simp
      | cons a q ih =>
        rw [List.flatMap_cons, List.length_append, List.length_cons]
        have := reach_count s h6 r (vals.set v.toNat a)
        rw [Nat.add_mul]
        omega
    have h1 := key (s.getD v.toNat [])
    have h2 : (s.getD v.toNat []).length * 6 ^ r.length ≤ 6 * 6 ^ r.length := Nat.mul_le_mul_right _ hrow
    rw [List.length_cons, Nat.pow_succ]
    omega
theorem metK_count (c : MCon) (scope : List Int) (us : List (List Int)) : (metK c scope us).length ≤ scope.length * us.length := by
  unfold metK
  induction us with
  | nil => simp
  | cons u us ih =>
    rw [List.flatMap_cons, List.length_append, List.length_cons, Nat.mul_add]
    have : (if holdsC c u then keysOf scope u else []).length ≤ scope.length := by
      split
      · simp [keysOf]
      · simp
    omega
theorem metK_append (c : MCon) (scope : List Int) (a b : List (List Int)) : metK c scope (a ++ b) = metK c scope a ++ metK c scope b := by
  unfold metK; rw [List.flatMap_append]
/-- What has been reached when so many values of a row are through. -/
def reachN (s : Sto) (v : Int) (r vals row : List Int) (j : Nat) : List (List Int) := (row.take j).flatMap fun x => reach s r (vals.set v.toNat x)
theorem reachN_next (s : Sto) (v : Int) (r vals row : List Int) (j : Nat) (x : Int) (h : row[j]? = some x) : reachN s v r vals row (j + 1) = reachN s v r vals row j ++ reach s r (vals.set v.toNat x) := by
  unfold reachN; rw [List.take_add_one, h, List.flatMap_append]; simp
set_option maxHeartbeats 3200000 in
set_option maxRecDepth 100000 in
theorem from_any (N B V M : Nat) (c : MCon) (vv vc vr vl sv stv : Value) (scope : List Int) (s : Sto)
    (hsc : ∀ v ∈ scope, 0 ≤ v ∧ v < s.length) (hce : conE s.length c = 0) (hs6 : s.length ≤ 6) (hrow : ∀ r ∈ s, r.length ≤ 6 ∧ ∀ x ∈ r, -50 ≤ x ∧ x ≤ 50) (hn8 : scope.length ≤ 8) :
    ∀ (rest : List Int) (k : Nat) (vals : List Int) (l : List (Int × Int)) (w : World), scope.drop k = rest → k ≤ scope.length → vals.length = s.length → (∀ x ∈ vals, -50 ≤ x ∧ x ≤ 50) → l.length + scope.length * 6 ^ rest.length ≤ 1000000000 →
      TrialS N B V M c vv vc vr vl sv stv scope s vals l w →
      Calls Tryz.prog 39 #[.pointer (some ⟨B, 0, none⟩), .int .i64 k] w fun e w' => e = .returned (.tuple #[]) ∧
        ∃ vals', TrialS N B V M c vv vc vr vl sv stv scope s vals' (l ++ metK c scope (reach s rest vals)) w' ∧ vals'.length = s.length ∧ (∀ x ∈ vals', -50 ≤ x ∧ x ≤ 50) ∧ Agree rest vals vals' ∧ Below N w w' := by
  have HSC : Hid (∀ v ∈ scope, 0 ≤ v ∧ v < (s.length : Int)) := hsc
  have HCE : Hid (conE s.length c = 0) := hce
  have HROW : Hid (∀ r ∈ s, r.length ≤ 6 ∧ ∀ x ∈ r, -50 ≤ x ∧ x ≤ 50) := hrow
  clear hsc hce hrow
  intro rest
  induction rest with
  | nil =>
    intro k vals l w hdr hk hvl hvb hbud hT
    have hks : k = scope.length := by
      have := congrArg List.length hdr
      simp at this
      omega
    subst hks
    obtain ⟨asv, csv, hsv, _, _⟩ := hT.parts.2.1
    subst hsv
    have HK : Hid (∀ w' : World, Below w.heap.size w w' → KArg w' vv vc vr vl c) := fun w' h => KArg.below h hT.parts.1
    have HVA : Hid (∀ w' : World, Below w.heap.size w w' → IArg w' (.slice (some ⟨V, 0, none⟩) vals.length vals.length) vals) := fun w' h => IArg.below h hT.vals_arg
    obtain ⟨⟨q1, r1, h1, _, _⟩, ⟨q2, r2, h2, _, _⟩, ⟨q3, r3, h3, _, _⟩, ⟨q4, r4, h4, _, _⟩⟩ := hT.parts.1
    subst h1; subst h2; subst h3; subst h4
    have b0 := bk_cell hT.2.1 0 _ rfl
    have b1 := bk_cell hT.2.1 1 _ rfl
    have b2 := bk_cell hT.2.1 2 _ rfl
    have b3 := bk_cell hT.2.1 3 _ rfl
    have b4 := bk_cell hT.2.1 4 _ rfl
    have b5 := bk_cell hT.2.1 5 _ rfl
    have b6 := bk_cell hT.2.1 6 _ rfl
    have b8 := bk_cell hT.2.1 8 _ rfl
    have hBl := hT.lts.1
    have HT : Hid (TrialS N B V M c (.slice q1 c.vars.length r1) (.slice q2 c.consts.length r2) (.slice q3 c.rows.length r3) (.slice q4 c.lits.length r4) (.slice asv scope.length csv) stv scope s vals l w) := hT
    have HVB : Hid (∀ x ∈ vals, -50 ≤ x ∧ x ≤ 50) := hvb
    have HVL : Hid (vals.length = s.length) := hvl
    have HNL : Hid (N ≤ w.heap.size) := hT.lts.2.2.2
    have HME : Hid (metK c scope (reach s [] vals) = if holdsC c vals then keysOf scope vals else []) := by show _ = _; simp [metK, reach]
    have hbud2 : l.length + scope.length ≤ 1000000000 := by simpa using hbud
    have hv6 : vals.length ≤ 6 := by omega
    clear hT hvb hdr hvl hbud
    go_enter Tryz.func39, Tryz.ntmps39
    go_wp2_with fail
    go_region_held3 (fun w' => Below w.heap.size w w' ∧ w'.cell? ⟨B, 0, none⟩ = some (.int .i64 c.kind) ∧ w'.cell? ⟨B, 1, none⟩ = some (.slice q1 c.vars.length r1) ∧ w'.cell? ⟨B, 2, none⟩ = some (.slice q2 c.consts.length r2) ∧ w'.cell? ⟨B, 3, none⟩ = some (.int .i64 c.n) ∧ w'.cell? ⟨B, 4, none⟩ = some (.slice q3 c.rows.length r3) ∧ w'.cell? ⟨B, 5, none⟩ = some (.slice q4 c.lits.length r4) ∧ w'.cell? ⟨B, 8, none⟩ = some (.slice (some ⟨V, 0, none⟩) vals.length vals.length))
      ((refine (fun (hB : Below w.heap.size w _) => ⟨hB, (hB.cell (p := ⟨B, 0, none⟩) hBl).trans b0, (hB.cell (p := ⟨B, 1, none⟩) hBl).trans b1, (hB.cell (p := ⟨B, 2, none⟩) hBl).trans b2, (hB.cell (p := ⟨B, 3, none⟩) hBl).trans b3, (hB.cell (p := ⟨B, 4, none⟩) hBl).trans b4, (hB.cell (p := ⟨B, 5, none⟩) hBl).trans b5, (hB.cell (p := ⟨B, 8, none⟩) hBl).trans b8⟩ : Below w.heap.size w _ → _) ?_; first | exact (Below.refl _ _).drew | exact hbq))
      (first
        | (go_at_call 41; refine (holds_any c vals _ _ _ _ _ _ (HK.out _ (Below.refl _ _).drew) (HVA.out _ (Below.refl _ _).drew) (by rw [HVL.out]; exact HCE.out) HVB.out).mono ?_; rintro e w1 ⟨rfl, hbr⟩; have hbq : Below w.heap.size w w1 := ⟨hbr.os, hbr.tape, hbr.output, hbr.size, hbr.block⟩))
    have HT1 : Hid (TrialS N B V M c (.slice q1 c.vars.length r1) (.slice q2 c.consts.length r2) (.slice q3 c.rows.length r3) (.slice q4 c.lits.length r4) (.slice asv scope.length csv) stv scope s vals l w1) := HT.out.below hbq
    have hbN : Below N w w1 := hbq.mono HNL.out
    clear hbr hbq b0 b1 b2 b3 b4 b5 b6 b8 hBl
    cases hq : holdsC c vals
    · rw [hq] at HME
      go_wp2
      (try simp only [Exit.inBlock, Exit.then])
      refine bodyPost_ret (results_none rfl _ _ _) rfl ?_
      refine ⟨rfl, vals, ?_, HVL.out, HVB.out, Agree.refl _ _, hbN⟩
      rw [HME.out]
      simpa using HT1.out
    · rw [hq] at HME
      go_wp2_with fail
      refine (meet_any N B V M c _ _ _ _ _ stv scope s vals l w1 HT1.out (by rw [HVL.out]; exact HSC.out) HVB.out hn8 hv6 hbud2).mono ?_
      rintro e w2 ⟨rfl, hT2, hb2⟩
      have HT2 : Hid (TrialS N B V M c (.slice q1 c.vars.length r1) (.slice q2 c.consts.length r2) (.slice q3 c.rows.length r3) (.slice q4 c.lits.length r4) (.slice asv scope.length csv) stv scope s vals (l ++ keysOf scope vals) w2) := hT2
      clear hT2
      go_wp2
      (try simp only [Exit.inBlock, Exit.then])
      refine bodyPost_ret (results_none rfl _ _ _) rfl ?_
      refine ⟨rfl, vals, ?_, HVL.out, HVB.out, Agree.refl _ _, hbN.trans hb2⟩
      rw [HME.out]
      exact HT2.out
  | cons v rest ih =>
    intro k vals l w hdr hk hvl hvb hbud hT
    have hkl : k < scope.length := by
      have := congrArg List.length hdr
      simp at this
      omega
    have hkv : scope[k]? = some v := by
      have h := congrArg (fun q : List Int => q[0]?) hdr
      simpa using h
    have hdr2 : scope.drop (k + 1) = rest := by
      have h := congrArg List.tail hdr
      simpa using h
    obtain ⟨hv0, hv1⟩ := HSC.out v (List.mem_of_getElem? hkv)
    obtain ⟨j, rfl⟩ : ∃ j : Nat, v = (j : Int) := ⟨v.toNat, by omega⟩
    have hjs : j < s.length := by omega
    obtain ⟨row, hrw⟩ : ∃ row, s[j]? = some row := ⟨s[j], by simp [hjs]⟩
    obtain ⟨hr6, hrb⟩ := HROW.out row (List.mem_of_getElem? hrw)
    obtain ⟨⟨_, _⟩, ⟨asv, csv, hsv, hms, hscell⟩, ⟨ast, cst, hst, hmt, hstcell⟩⟩ := hT.parts
    subst hsv; subst hst
    obtain ⟨bs, os, has, hbs, e0⟩ := hscell k _ hkv
    subst has
    obtain ⟨bt, ot, xt, hat, hbt, e1, hxt⟩ := hstcell j _ hrw
    subst hat
    have HXT : Hid (IArg w xt row) := hxt
    obtain ⟨ar, cr, rfl, hmr, hrc⟩ := hxt
    unfold maxLen at hms hmt hmr
    obtain ⟨hms1, hms⟩ := hms
    obtain ⟨hmt1, hmt⟩ := hmt
    obtain ⟨hmr1, hmr⟩ := hmr
    have b6 := bk_cell hT.2.1 6 _ rfl
    have b7 := bk_cell hT.2.1 7 _ rfl
    have HT : Hid (TrialS N B V M c vv vc vr vl (.slice (some ⟨bs, os, none⟩) scope.length csv) (.slice (some ⟨bt, ot, none⟩) s.length cst) scope s vals l w) := hT
    have HVB : Hid (∀ x ∈ vals, -50 ≤ x ∧ x ≤ 50) := hvb
    have HVL : Hid (vals.length = s.length) := hvl
    have HRB : Hid (∀ x ∈ row, -50 ≤ x ∧ x ≤ 50) := hrb
    have HRW : Hid (s[j]? = some row) := hrw
    have HOR : Hid (∀ w' : World, Below N w w' → IArg w' (.slice ar row.length cr) row) := by
      obtain ⟨_, _, ⟨w0, g1, ⟨_, _, g2⟩, g3⟩, _, _⟩ := hT
      obtain ⟨ast', cst', hst', _, hstc'⟩ := g2
      obtain ⟨bt', ot', xt', hat', hbt', e1', hxt'⟩ := hstc' j _ hrw
      injection hst' with hq
      rw [← hq] at hat'
      cases hat'
      have e2 := (g3.cell (p := ⟨bt, ot + j, none⟩) hbt').trans e1'
      rw [e1] at e2
      cases e2
      intro w' h
      exact IArg.below (g3.trans (h.mono g1)) hxt'
    obtain ⟨X, hX⟩ : ∃ X, scope.length * 6 ^ rest.length = X := ⟨_, rfl⟩
    have hbud2 : l.length + 6 * X ≤ 1000000000 := by
      rw [List.length_cons, Nat.pow_succ] at hbud
      rw [← hX]
      have : scope.length * (6 ^ rest.length * 6) = 6 * (scope.length * 6 ^ rest.length) := by rw [Nat.mul_comm (6 ^ rest.length) 6, ← Nat.mul_assoc, Nat.mul_comm scope.length 6, Nat.mul_assoc]
      omega
    have HRN : Hid (∀ jj, jj ≤ row.length → (metK c scope (reachN s (j : Int) rest vals row jj)).length ≤ jj * X) := by
      intro jj hjj
      refine Nat.le_trans (metK_count c scope _) ?_
      have h1 : (reachN s (j : Int) rest vals row jj).length ≤ jj * 6 ^ rest.length := by
        have key : ∀ q : List Int, (q.flatMap fun x => reach s rest (vals.set ((j : Int)).toNat x)).length ≤ q.length * 6 ^ rest.length := by
          intro q
          induction q with
          | nil => simp
          | cons a q ih2 =>
            rw [List.flatMap_cons, List.length_append, List.length_cons]
            have := reach_count s (fun r hr => (HROW.out r hr).1) rest (vals.set ((j : Int)).toNat a)
            rw [Nat.add_mul]
            omega
        unfold reachN
        have h2 := key (row.take jj)
        rw [List.length_take, Nat.min_eq_left hjj] at h2
        exact h2
      rw [← hX]
      calc scope.length * (reachN s (j : Int) rest vals row jj).length ≤ scope.length * (jj * 6 ^ rest.length) := Nat.mul_le_mul_left _ h1
        _ = jj * (scope.length * 6 ^ rest.length) := by rw [← Nat.mul_assoc, Nat.mul_comm scope.length jj, Nat.mul_assoc]
    have HEND : Hid (reachN s (j : Int) rest vals row row.length = reach s ((j : Int) :: rest) vals) := by
      show _ = _
      unfold reachN
      rw [List.take_length]
      conv => rhs; unfold reach
      rw [Int.toNat_natCast, List.getD_eq_getElem?_getD, hrw]; rfl
    have HIH : Hid (∀ (vals : List Int) (l : List (Int × Int)) (w : World), vals.length = s.length → (∀ x ∈ vals, -50 ≤ x ∧ x ≤ 50) → l.length + X ≤ 1000000000 →
      TrialS N B V M c vv vc vr vl (.slice (some ⟨bs, os, none⟩) scope.length csv) (.slice (some ⟨bt, ot, none⟩) s.length cst) scope s vals l w →
      Calls Tryz.prog 39 #[.pointer (some ⟨B, 0, none⟩), .int .i64 ((k : Int) + 1)] w fun e w' => e = .returned (.tuple #[]) ∧
        ∃ vals', TrialS N B V M c vv vc vr vl (.slice (some ⟨bs, os, none⟩) scope.length csv) (.slice (some ⟨bt, ot, none⟩) s.length cst) scope s vals' (l ++ metK c scope (reach s rest vals)) w' ∧ vals'.length = s.length ∧ (∀ x ∈ vals', -50 ≤ x ∧ x ≤ 50) ∧ Agree rest vals vals' ∧ Below N w w') := by
      intro vals1 l1 w1 a1 a2 a3 a4
      exact ih (k + 1) vals1 l1 w1 hdr2 (by omega) a1 a2 (by rw [hX]; exact a3) a4
    have g0 : ((k : Int) == (scope.length : Int)) = false := by simp; omega
    have hlt8 : k < 8 := by omega
    clear hT hvb hdr hvl hbud hrb hrw hrc hscell hstcell ih hX hdr2 hkv hv0 hv1 HXT
    go_enter Tryz.func39, Tryz.ntmps39
    go_wp2_with fail
    clear b6 b7 e0 e1
    go_loopw [40] (fun i wr => ∃ (jj : Nat) (vals' : List Int), jj ≤ row.length ∧ i = .int .i64 jj ∧ TrialS N B V M c vv vc vr vl (.slice (some ⟨bs, os, none⟩) scope.length csv) (.slice (some ⟨bt, ot, none⟩) s.length cst) scope s vals' (l ++ metK c scope (reachN s (j : Int) rest vals row jj)) wr ∧ Hid (vals'.length = s.length ∧ (∀ x ∈ vals', -50 ≤ x ∧ x ≤ 50) ∧ Agree ((j : Int) :: rest) vals vals') ∧ Below N w wr) (fun i _ => row.length - (intOf i).toNat)
    case atStart => exact ⟨0, vals, by omega, rfl, by simpa [reachN, metK] using HT.out, ⟨HVL.out, HVB.out, Agree.refl _ _⟩, Below.refl _ _⟩
    case round =>
      obtain ⟨jj, vals', hjj, rfl, hTr, hH, hbw⟩ := hrel
      have HTR : Hid (TrialS N B V M c vv vc vr vl (.slice (some ⟨bs, os, none⟩) scope.length csv) (.slice (some ⟨bt, ot, none⟩) s.length cst) scope s vals' (l ++ metK c scope (reachN s (j : Int) rest vals row jj)) wr) := hTr
      have HBW : Hid (Below N w wr) := hbw
      clear hTr hbw
      by_cases hlt : jj < row.length
      · obtain ⟨x, hx⟩ : ∃ x, row[jj]? = some x := ⟨row[jj], by simp [hlt]⟩
        have hxb := HRB.out x (List.mem_of_getElem? hx)
        obtain ⟨a', c', hva, _, hrc⟩ := HOR.out _ HBW.out
        obtain ⟨b2, o2, hax, hb2, e2⟩ := hrc jj _ hx
        have har : ar = some ⟨b2, o2, none⟩ := by injection hva with e1; exact e1.trans hax
        subst har
        have c8 := bk_cell HTR.out.2.1 8 _ rfl
        have HOW := HTR.out.2.2.2.1
        have hjv : j < vals'.length := by rw [hH.out.1]; exact hjs
        obtain ⟨y, hy⟩ : ∃ y, vals'[j]? = some y := ⟨vals'[j], by simp [hjv]⟩
        have cv : wr.cell? ⟨V, j, none⟩ = some (.int .i64 y) := by rw [HOW.cellAt j (by omega), List.getElem?_map, hy]; rfl
        have zv := HOW.frozenAt j
        have HSET := HTR.out.set j x
        have HST : Hid (TrialS N B V M c vv vc vr vl (.slice (some ⟨bs, os, none⟩) scope.length csv) (.slice (some ⟨bt, ot, none⟩) s.length cst) scope s (vals'.set j x) (l ++ metK c scope (reachN s (j : Int) rest vals row jj)) (wr.setCell ⟨V, j, none⟩ (.int .i64 x))) := HSET.1
        have HSB : Hid (Below N w (wr.setCell ⟨V, j, none⟩ (.int .i64 x))) := HBW.out.trans HSET.2
        have HV1 : Hid ((vals'.set j x).length = s.length) := by show _ = _; rw [List.length_set]; exact hH.out.1
        have HV2 : Hid (∀ y ∈ vals'.set j x, -50 ≤ y ∧ y ≤ 50) := bounds_set _ _ _ hH.out.2.1 hxb
        have hbud3 : (l ++ metK c scope (reachN s (j : Int) rest vals row jj)).length + X ≤ 1000000000 := by
          have h1 := HRN.out jj hjj
          have h2 : jj * X ≤ 5 * X := Nat.mul_le_mul_right _ (by omega)
          rw [List.length_append]
          omega
        have HRS : Hid (reach s rest (vals'.set j x) = reach s rest (vals.set ((j : Int)).toNat x)) := by
          have h := (hH.out.2.2).set x
          exact (reach_same s rest _ _ h).symm
        have HNX : Hid (metK c scope (reachN s (j : Int) rest vals row (jj + 1)) = metK c scope (reachN s (j : Int) rest vals row jj) ++ metK c scope (reach s rest (vals'.set j x))) := by
          show _ = _
          rw [reachN_next s _ rest vals row jj x hx, metK_append, HRS.out]
        have HAG : Hid (Agree ((j : Int) :: rest) vals (vals'.set j x)) := (hH.out.2.2).trans (Agree.of_set rest vals' (j : Int) x)
        clear hx hy hva hrc hax HOW HSET hH hxb
        go_wp2_with fail
        refine (HIH.out _ _ _ HV1.out HV2.out hbud3 HST.out).mono ?_
        rintro e w2 ⟨rfl, v2, hT2, hl2, hb2', hag2, hbN2⟩
        have HT2 : Hid (TrialS N B V M c vv vc vr vl (.slice (some ⟨bs, os, none⟩) scope.length csv) (.slice (some ⟨bt, ot, none⟩) s.length cst) scope s v2 (l ++ metK c scope (reachN s (j : Int) rest vals row (jj + 1))) w2) := by
          rw [HNX.out, ← List.append_assoc]; exact hT2
        have HH2 : Hid (v2.length = s.length ∧ (∀ x ∈ v2, -50 ≤ x ∧ x ≤ 50) ∧ Agree ((j : Int) :: rest) vals v2) := ⟨hl2, hb2', HAG.out.trans (Agree.cons _ hag2)⟩
        have HB2 : Hid (Below N w w2) := HSB.out.trans hbN2
        clear hT2 hl2 hb2' hag2 hbN2 hbud3
        go_wp2
        go_roundw
        case rel => exact ⟨jj + 1, v2, by omega, by go_num, HT2.out, HH2, HB2.out⟩
        case measure => simp [intOf]; omega
      · have hje : jj = row.length := by omega
        have HF : Hid (TrialS N B V M c vv vc vr vl (.slice (some ⟨bs, os, none⟩) scope.length csv) (.slice (some ⟨bt, ot, none⟩) s.length cst) scope s vals' (l ++ metK c scope (reach s ((j : Int) :: rest) vals)) wr) := by
          have h := HTR.out
          rw [hje, HEND.out] at h
          exact h
        clear hje
        go_wp2
        go_end0
        exact ⟨rfl, vals', HF.out, hH.out.1, hH.out.2.1, hH.out.2.2, HBW.out⟩
end Go.Proofs.YtddaebbllhiidaeGreatDoor
/-
  WALKS: package store: Meet.
-/
namespace Go.Proofs.YtddaebbllhiidaeGreatDoor
open Go.RowKit

def meetA (m : Mod) (s t : Sto) : Sto × Int := if checkL m [s, t] = 0 then (meetS s t, 0) else ([], checkL m [s, t])
theorem rows_short (m : Mod) (s : Sto) (hm : checkM m = 0) (hs : checkV m.vars s = 0) : s.length ≤ 6 ∧ ∀ r ∈ s, r.length ≤ 6 := by
  have h1 := (checkM_vars m hm).2.1
  have h2 := ((checkV_ok _ _).1 hs).1
  refine ⟨by omega, fun r hr => ?_⟩
  obtain ⟨i, hi⟩ := List.mem_iff_getElem?.1 hr
  exact row_short m s hm hs i r hi

end Go.Proofs.YtddaebbllhiidaeGreatDoor
