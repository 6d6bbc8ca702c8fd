/-
  WALKS: package store: Meet.
-/
import Derived.Test.YtcnfnkafmlhnpabStoD
namespace Go.Proofs.Ytcnfnkafmlhnpab
open Go.RowKit

theorem Try.infoInts : (Try.prog.info? 48).map (fun i => (i.zero, i.size, i.bytes)) = some (some (.slice none 0 0), 1, 24) := by kernel_rfl
theorem Try.infoInt : (Try.prog.info? 3).map (fun i => (i.zero, i.size, i.bytes)) = some (some (.int .i64 0), 1, 8) := by kernel_rfl
theorem Try.underStore : Try.prog.underlying 27 = some (.slice 48) := by kernel_rfl

/-- A store is made: all of its rows are nil. -/
theorem make_store (n : Nat) (hn : n ≤ 6) (w : World) : ∃ w', Sem.run Try.prog (Instr.makeSlice 27 (.int .i64 (n : Int)) (.int .i64 (n : Int))) w = .ok (.slice (some ⟨w.heap.size, 0, none⟩) n n) w' ∧
    (∀ M, SRows w' w.heap.size w.heap.size n (List.replicate n (.slice none 0 0)) M 0) ∧ Below w.heap.size w w' := by
  obtain ⟨i0, hi, hz0, hz1, hz2⟩ := info_parts Try.infoInts
  obtain ⟨w', hrun, hown, hg⟩ := run_makeSlice_full w w.heap.size 27 48 i0 (.slice none 0 0) 1 Try.underStore hi hz0 hz1 .i64 .i64 n (by omega) (by rw [hz2]; omega) (by unfold maxLen; omega) (Nat.le_refl _)
  refine ⟨w', hrun, fun M => ⟨?_, fun i r hi => absurd hi (Nat.not_lt_zero _), fun i _ hn => by simp [hn]⟩, (Below.refl _ _).grown hg (Nat.le_refl _) (fun k h => by cases h)⟩
  have : (Value.slice none 0 0).cells = #[.slice none 0 0] := rfl
  rw [this, Nat.mul_one, toList_madeCells_one] at hown
  exact hown

theorem one_laid (w : World) (z : Int) : ∀ (j : Nat) (u : Value), [Value.int .i64 z][j]? = some u → (w.alloc (.cells #[.int .i64 z] 3)).cell? ((⟨w.heap.size, 0, none⟩ : Addr).add j) = some u := by
  intro j u hj
  match j, hj with
  | 0, hj => simp at hj; subst hj; simp [Addr.add]

def meetA (m : Mod) (s t : Sto) : Sto × Int := if checkL m [s, t] = 0 then (meetS s t, 0) else ([], checkL m [s, t])
theorem meetR_hit (r q : List Int) (j : Nat) (z : Int) (hz : r[j]? = some z) (h : hasB q z = true) : meetR (r.take (j + 1)) q = meetR (r.take j) q ++ [z] := by
  unfold meetR; rw [List.take_add_one, hz, List.filter_append]; simp [h]
theorem meetR_miss (r q : List Int) (j : Nat) (z : Int) (hz : r[j]? = some z) (h : hasB q z = false) : meetR (r.take (j + 1)) q = meetR (r.take j) q := by
  unfold meetR; rw [List.take_add_one, hz, List.filter_append]; simp [h]
theorem meetR_short (r q : List Int) (j : Nat) : (meetR (r.take j) q).length ≤ r.length := by
  unfold meetR
  exact Nat.le_trans (List.length_filter_le _ _) (by rw [List.length_take]; omega)

set_option maxHeartbeats 1600000 in
set_option maxRecDepth 100000 in
theorem smeet_any (m : Mod) (s t : Sto) (vs cs v u : Value) (w : World) (hm : MArg w vs cs m) (hv : RArg w v s) (hu : RArg w u t) :
    Calls Try.prog 6 #[modV vs cs m, v, u] w fun e w' => ∃ x, e = .returned (.tuple #[x, .int .i64 (meetA m s t).2]) ∧ RArg w' x (meetA m s t).1 ∧ Below w.heap.size w w' := by
  have HMA : Hid (∀ w' : World, Below w.heap.size w w' → MArg w' vs cs m) := fun w' h => MArg.below h hm
  have HVA : Hid (∀ w' : World, Below w.heap.size w w' → RArg w' v s) := fun w' h => RArg.below h hv
  have HUA : Hid (∀ w' : World, Below w.heap.size w w' → RArg w' u t) := fun w' h => RArg.below h hu
  obtain ⟨⟨a1, c1, rfl, _, _⟩, ⟨a2, c2, rfl, _, _⟩⟩ := hm
  obtain ⟨a3, c3, rfl, hl3, hr3⟩ := hv
  obtain ⟨a4, c4, rfl, hl4, hr4⟩ := hu
  have HV3 : Hid (∀ (i : Nat) (r : List Int), s[i]? = some r → ∃ b off x, a3 = some ⟨b, off, none⟩ ∧ b < w.heap.size ∧ w.cell? ⟨b, off + i, none⟩ = some x ∧ IArg w x r) := hr3
  have HV4 : Hid (∀ (i : Nat) (r : List Int), t[i]? = some r → ∃ b off x, a4 = some ⟨b, off, none⟩ ∧ b < w.heap.size ∧ w.cell? ⟨b, off + i, none⟩ = some x ∧ IArg w x r) := hr4
  clear hr3 hr4
  unfold maxLen at hl3 hl4
  obtain ⟨hl31, hl3⟩ := hl3
  obtain ⟨hl41, hl4⟩ := hl4
  obtain ⟨R, hR⟩ : ∃ R, meetA m s t = R := ⟨_, rfl⟩
  rw [hR]
  obtain ⟨er, her⟩ : ∃ er, checkL m [s, t] = er := ⟨_, rfl⟩
  have HER : Hid (checkL m [s, t] = er) := her
  have HE : Hid (R = if er = 0 then (meetS s t, 0) else ([], er)) := by rw [← hR, ← her]; rfl
  have HOK : Hid (er = 0 → checkM m = 0 ∧ checkV m.vars s = 0 ∧ checkV m.vars t = 0) := by
    intro h0
    rwa [← her, checkL_two] at h0
  clear hR her
  unfold modV
  go_enter Try.func6, Try.ntmps6
  go_wp2_with fail
  refine (check_any2 m [s, t] (.slice a1 m.vars.length c1) (.slice a2 m.cons.length c2) _ _ ?_ ?_).mono ?_
  · exact HMA.out _ ((below_alloc _ _).alloc (by simp) _)
  · exact garg_two (by simp) (HVA.out _ (below_alloc _ _)) (HUA.out _ (below_alloc _ _))
  rintro e w1 ⟨rfl, hb1⟩
  rw [HER.out]
  have HB1 : Hid (Below w.heap.size w w1) := ((below_alloc _ _).alloc (by simp) _).trans (hb1.mono (by simp; omega))
  have hs1 : w.heap.size + 2 ≤ w1.heap.size := by simpa using hb1.size
  clear hb1
  by_cases he : er = 0
  · subst he
    have HOK2 : Hid (checkM m = 0 ∧ checkV m.vars s = 0 ∧ checkV m.vars t = 0) := HOK.out rfl
    have hn : s.length ≤ 6 := by
      have h1 := (checkM_vars m HOK2.out.1).2.1
      have h2 := ((checkV_ok _ _).1 HOK2.out.2.1).1
      omega
    have HL2 : Hid (t.length = s.length) := by
      have h2 := ((checkV_ok _ _).1 HOK2.out.2.1).1
      have h3 := ((checkV_ok _ _).1 HOK2.out.2.2).1
      exact h3.trans h2.symm
    have HE2 : Hid (R = (meetS s t, 0)) := by rw [HE.out, if_pos rfl]; rfl
    obtain ⟨wm, hrun, hrows, hbm⟩ := make_store s.length hn w1
    have HROWS : Hid (∀ M, SRows wm w1.heap.size w1.heap.size s.length (List.replicate s.length (.slice none 0 0)) M 0) := hrows
    have HBM : Hid (Below w.heap.size w wm) := HB1.out.trans (hbm.mono (by omega))
    obtain ⟨B, hB⟩ : ∃ B, B = w1.heap.size := ⟨_, rfl⟩
    rw [← hB] at hrun HROWS
    have hBw : w.heap.size ≤ B := by omega
    obtain ⟨i0, hi, hz0, hz1, hz2⟩ := info_parts Try.infoInt
    clear hrows hbm hB hs1
    go_wp2_with fail
    clear hrun
    go_loopw [27] (fun i wr => ∃ (k : Nat) (cells : List Value), k ≤ s.length ∧ i = .int .i64 k ∧ SRows wr B B s.length cells (meetS s t) k ∧ Below w.heap.size w wr) (fun i _ => s.length - (intOf i).toNat)
    case atStart => exact ⟨0, _, by omega, rfl, HROWS.out _, HBM.out⟩
    case round =>
      obtain ⟨k, cells, hk, rfl, hrow, hbw⟩ := hrel
      have HROW : Hid (SRows wr B B s.length cells (meetS s t) k) := hrow
      have HBW : Hid (Below w.heap.size w wr) := hbw
      clear hrow hbw
      by_cases hlt : k < s.length
      · obtain ⟨r, hr⟩ : ∃ r, s[k]? = some r := ⟨s[k], by simp [hlt]⟩
        obtain ⟨q, hq0⟩ : ∃ q, t[k]? = some q := ⟨t[k]'(by rw [HL2.out]; exact hlt), by simp⟩
        have HM : Hid ((meetS s t)[k]? = some (meetR r q)) := meetS_get s t k r q hr hq0
        have hr6 : r.length ≤ 6 := row_short m s HOK2.out.1 HOK2.out.2.1 k r hr
        have HR : Hid (s[k]? = some r) := hr
        have HQ : Hid (t[k]? = some q) := hq0
        have hkt : k < t.length := by rw [HL2.out]; exact hlt
        obtain ⟨b, off, x, hax, hb, hc0, hix⟩ := HV3.out k r hr
        obtain ⟨b', off', x', hax', hb', hc0', hix'⟩ := HV4.out k q hq0
        subst hax; subst hax'
        have hc := (HBW.out.cell (p := ⟨b, off + k, none⟩) hb).trans hc0
        have HIX : Hid (IArg w x r) := hix
        have HIX' : Hid (IArg w x' q) := hix'
        obtain ⟨a5, c5, rfl, hm5, hr5⟩ := hix
        obtain ⟨a6, c6, rfl, _, _⟩ := hix'
        have HR5 : Hid (∀ (i : Nat) (z : Int), r[i]? = some z → ∃ b off, a5 = some ⟨b, off, none⟩ ∧ b < w.heap.size ∧ w.cell? ⟨b, off + i, none⟩ = some (.int .i64 z)) := hr5
        have HC' : Hid (w.cell? ⟨b', off' + k, none⟩ = some (.slice a6 q.length c6)) := hc0'
        have HBB : Hid (b' < w.heap.size) := hb'
        unfold maxLen at hm5
        obtain ⟨hm51, hm5⟩ := hm5
        obtain ⟨K, HIN⟩ : ∃ K, Hid (SRowsIn wr B B s.length cells (meetS s t) k K []) := ⟨_, HROW.out.into hlt⟩
        clear hr hq0 hc0 hc0' hr5 hb hb'
        obtain ⟨wo, rfl⟩ : ∃ wo : World, wo = wr := ⟨_, rfl⟩
        go_wp2_with fail
        clear hc
        go_loopw [34] (fun i wr => ∃ (j : Nat) (cells : List Value), j ≤ r.length ∧ i = .int .i64 j ∧ SRowsIn wr B B s.length cells (meetS s t) k K (meetR (r.take j) q) ∧ Below w.heap.size w wr) (fun i _ => r.length - (intOf i).toNat)
        case atStart => exact ⟨0, cells, by omega, rfl, HIN.out, HBW.out⟩
        case round =>
          obtain ⟨j, cells, hj, rfl, hin, hbw⟩ := hrel
          have HIN2 : Hid (SRowsIn wr B B s.length cells (meetS s t) k K (meetR (r.take j) q)) := hin
          have HBW2 : Hid (Below w.heap.size w wr) := hbw
          clear hin hbw
          by_cases hlj : j < r.length
          · obtain ⟨z, hz⟩ : ∃ z, r[j]? = some z := ⟨r[j], by simp [hlj]⟩
            obtain ⟨b5, off5, ha5, hb5, hc5⟩ := HR5.out j z hz
            have HZ : Hid (r[j]? = some z) := hz
            subst ha5
            have hc := (HBW2.out.cell (p := ⟨b5, off5 + j, none⟩) hb5).trans hc5
            have hct := (HBW2.out.cell (p := ⟨b', off' + k, none⟩) HBB.out).trans HC'.out
            clear hz hc5 hb5
            cases hq : hasB q z
            · have HN : Hid (meetR (r.take (j + 1)) q = meetR (r.take j) q) := meetR_miss r q j z HZ.out hq
              go_wp2_with fail
              refine (contains_ints q _ z _ (IArg.below HBW2.out HIX'.out)).mono ?_
              rintro e wr ⟨rfl, rfl⟩
              rw [hq]
              clear hq
              go_wp2
              go_roundw
              case rel => exact ⟨j + 1, cells, by omega, by go_num, by rw [HN.out]; exact HIN2.out, HBW2.out⟩
              case measure => simp [intOf]; omega
            · have HN : Hid (meetR (r.take (j + 1)) q = meetR (r.take j) q ++ [z]) := meetR_hit r q j z HZ.out hq
              obtain ⟨acc, hacc⟩ : ∃ acc, meetR (r.take j) q = acc := ⟨_, rfl⟩
              have hal : acc.length ≤ 6 := by rw [← hacc]; exact Nat.le_trans (meetR_short r q j) hr6
              rw [hacc] at HN HIN2
              clear hacc
              obtain ⟨htop, _, ⟨x, hx, hox⟩, _, hBK, hKw, _⟩ := HIN2.out
              obtain ⟨ax, cx, rfl⟩ := own_form hox
              have HX : Hid (cells[k]? = some (.slice ax acc.length cx)) := hx
              have hcx : wr.cell? ⟨B, k, none⟩ = some (.slice ax acc.length cx) := by rw [htop.cellAt k (by omega)]; exact hx
              have hlB : B < wr.heap.size := by omega
              clear hx
              go_wp2_with fail
              refine (contains_ints q _ z _ (IArg.below HBW2.out HIX'.out)).mono ?_
              rintro e wr ⟨rfl, rfl⟩
              rw [hq]
              clear hq
              go_wp2_with (at_builtin; refine wpList_append_own _ rfl _ _ 48 rfl K 3 i0 (.int .i64 0) 1 8 Try.underlying48 hi hz0 hz1 hz2 rfl (by decide) _ _ _ rfl (hox.alloc _) ⟨wr.heap.size, 0, none⟩ 1 1 [.int .i64 z] rfl rfl ?c1 ?c2 ?c3 ?c4 ?c5 ?_)
              case c1 => exact one_laid wr z
              case c2 => intro u hu; rcases List.mem_singleton.1 hu with rfl; rfl
              case c3 => unfold maxLen; omega
              case c4 => omega
              case c5 => simp; omega
              intro v3 w3 hown3 hgrow _
              have hown4 : w3.ownsRow K 3 1 v3 (acc ++ [z]).length ((acc ++ [z]).map (Value.int .i64)) := by
                rw [List.length_append, List.map_append]; exact hown3
              have HPUSH : Hid (SRowsIn (w3.setCell ⟨B, k, none⟩ v3) B B s.length (cells.set k v3) (meetS s t) k K (acc ++ [z])) := (HIN2.out.kept (below_alloc _ _)).push HX.out hown4 hgrow
              have HB3 : Hid (Below w.heap.size w (w3.setCell ⟨B, k, none⟩ v3)) :=
                ((HBW2.out.alloc HBW2.out.size _).grown hgrow (by have := HBW2.out.size; simp; omega) (fun g h => by have := (hox.lt g h).1; omega)).setCell (by simp only; omega) _
              have ht3 : w3.ownsRow B 48 1 (.slice (some ⟨B, 0, none⟩) s.length s.length) s.length cells := (htop.alloc _).kept hgrow (Or.inr (fun h => by have := (hox.lt B h.symm).1; omega))
              have hcB : w3.cell? ⟨B, k, none⟩ = some (.slice ax acc.length cx) := by rw [ht3.cellAt k (by omega)]; exact HX.out
              have hfB : w3.frozen? ⟨B, k, none⟩ = false := ht3.frozenAt k
              obtain ⟨av, cv, rfl⟩ := own_form hown4
              rw [show (acc ++ [z]).length = acc.length + 1 by simp] at HPUSH HB3
              clear hown3 hgrow hown4 hox hcx htop ht3
              go_wp2
              go_roundw
              case rel => exact ⟨j + 1, _, by omega, by go_num, by rw [HN.out]; exact HPUSH.out, HB3.out⟩
              case measure => simp [intOf]; omega
          · have HN : Hid (meetR (r.take j) q = meetR r q) := by show _ = _; rw [List.take_of_length_le (by omega)]
            have HD : Hid (SRows wr B B s.length cells (meetS s t) (k + 1)) := HIN2.out.done (by rw [HN.out]; exact HM.out)
            go_wp2
            go_roundw
            case rel => exact ⟨k + 1, cells, by omega, by go_num, HD.out, HBW2.out⟩
            case measure => simp [intOf]; omega
      · have hks : k = s.length := by omega
        have HF : Hid (RArg wr (.slice (some ⟨B, 0, none⟩) s.length s.length) (meetS s t)) := by
          have h := HROW.out
          rw [hks] at h
          exact h.rarg (meetS_len s t HL2.out)
        clear hks
        go_wp2
        go_ret2
        rw [HE2.out]
        exact ⟨_, rfl, HF.out, HBW.out⟩
  · have HN : Hid (R = ([], er)) := by rw [HE.out, if_neg he]; rfl
    have he2 : (er != 0) = true := by simpa using he
    clear he
    go_wp2
    go_ret2
    rw [HN.out]
    exact ⟨_, rfl, ⟨_, _, rfl, ⟨Nat.le_refl _, Nat.zero_le _⟩, fun i r h => by simp at h⟩, HB1.out⟩
end Go.Proofs.Ytcnfnkafmlhnpab
