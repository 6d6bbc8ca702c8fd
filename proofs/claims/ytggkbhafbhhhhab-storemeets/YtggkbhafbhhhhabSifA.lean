/-
  WALK: package sift: Those, with whatever closure.
-/
import Derived.Test.YtggkbhafbhhhhabStoD
import Derived.Test.YtggkbhafbhhhhabSifPlain
namespace Go.Proofs.Ytggkbhafbhhhhab
open Go.RowKit

theorem Try.infoInts : (Try.prog.info? 62).map (fun i => (i.zero, i.size, i.bytes)) = some (some (.slice none 0 0), 1, 24) := by kernel_rfl
theorem Try.infoInt : (Try.prog.info? 3).map (fun i => (i.zero, i.size, i.bytes)) = some (some (.int .i64 0), 1, 8) := by kernel_rfl
theorem Try.underStore : Try.prog.underlying 27 = some (.slice 62) := by kernel_rfl

/-- A store is made: all of its rows are nil. -/
theorem make_store (n : Nat) (hn : n ≤ 6) (w : World) : ∃ w', Sem.run Try.prog (Instr.makeSlice 27 (.int .i64 (n : Int)) (.int .i64 (n : Int))) w = .ok (.slice (some ⟨w.heap.size, 0, none⟩) n n) w' ∧
    (∀ M, SRows w' w.heap.size w.heap.size n (List.replicate n (.slice none 0 0)) M 0) ∧ Below w.heap.size w w' := by
  obtain ⟨i0, hi, hz0, hz1, hz2⟩ := info_parts Try.infoInts
  obtain ⟨w', hrun, hown, hg⟩ := run_makeSlice_full w w.heap.size 27 62 i0 (.slice none 0 0) 1 Try.underStore hi hz0 hz1 .i64 .i64 n (by omega) (by rw [hz2]; omega) (by unfold maxLen; omega) (Nat.le_refl _)
  refine ⟨w', hrun, fun M => ⟨?_, fun i r hi => absurd hi (Nat.not_lt_zero _), fun i _ hn => by simp [hn]⟩, (Below.refl _ _).grown hg (Nat.le_refl _) (fun k h => by cases h)⟩
  have : (Value.slice none 0 0).cells = #[.slice none 0 0] := rfl
  rw [this, Nat.mul_one, toList_madeCells_one] at hown
  exact hown

theorem one_laid (w : World) (z : Int) : ∀ (j : Nat) (u : Value), [Value.int .i64 z][j]? = some u → (w.alloc (.cells #[.int .i64 z] 3)).cell? ((⟨w.heap.size, 0, none⟩ : Addr).add j) = some u := by
  intro j u hj
  match j, hj with
  | 0, hj => simp at hj; subst hj; simp [Addr.add]

/-- A closure over a variable and a value that only reads what is old. -/
def ClosS (F : Nat) (caps : Array Value) (s : Sto) (p : Nat → Int → Bool) (w : World) : Prop :=
  (∀ (args : Array Value) (w' : World), Sem.run Try.prog (callFunc F args) w' = .ok (.enter F args) w') ∧
  ∀ (k : Nat) (r : List Int) (z : Int) (w' : World), s[k]? = some r → z ∈ r → Below w.heap.size w w' → Calls Try.prog F (#[.int .i64 k, .int .i64 z] ++ caps) w' fun e w'' => e = .returned (.bool (p k z)) ∧ Below w'.heap.size w' w''
theorem filt_hit (q : Int → Bool) (r : List Int) (j : Nat) (z : Int) (hz : r[j]? = some z) (h : q z = true) : (r.take (j + 1)).filter q = (r.take j).filter q ++ [z] := by
  rw [List.take_add_one, hz, List.filter_append]; simp [h]
theorem filt_miss (q : Int → Bool) (r : List Int) (j : Nat) (z : Int) (hz : r[j]? = some z) (h : q z = false) : (r.take (j + 1)).filter q = (r.take j).filter q := by
  rw [List.take_add_one, hz, List.filter_append]; simp [h]
theorem filt_short (q : Int → Bool) (r : List Int) (j : Nat) : ((r.take j).filter q).length ≤ r.length :=
  Nat.le_trans (List.length_filter_le _ _) (by rw [List.length_take]; omega)

set_option maxHeartbeats 1600000 in
set_option maxRecDepth 100000 in
theorem sift_any (F : Nat) (caps : Array Value) (s : Sto) (p : Nat → Int → Bool) (v : Value) (w : World) (hv : RArg w v s) (hF : ClosS F caps s p w) (hn : s.length ≤ 6) (hr6 : ∀ r ∈ s, r.length ≤ 6) :
    Calls Try.prog 34 #[v, .func (.func F) #[] caps] w fun e w' => ∃ x, e = .returned x ∧ RArg w' x (siftS s p) ∧ Below w.heap.size w w' := by
  obtain ⟨a3, c3, rfl, hl3, hr3⟩ := hv
  have HV3 : Hid (∀ (i : Nat) (r : List Int), s[i]? = some r → ∃ b off x, a3 = some ⟨b, off, none⟩ ∧ b < w.heap.size ∧ w.cell? ⟨b, off + i, none⟩ = some x ∧ IArg w x r) := hr3
  have HF : Hid (ClosS F caps s p w) := hF
  have HR6 : Hid (∀ r ∈ s, r.length ≤ 6) := hr6
  unfold maxLen at hl3
  obtain ⟨hl31, hl3⟩ := hl3
  obtain ⟨wm, hrun, hrows, hbm⟩ := make_store s.length hn w
  have HROWS : Hid (∀ M, SRows wm w.heap.size w.heap.size s.length (List.replicate s.length (.slice none 0 0)) M 0) := hrows
  have HBM : Hid (Below w.heap.size w wm) := hbm
  obtain ⟨B, hB⟩ : ∃ B, B = w.heap.size := ⟨_, rfl⟩
  rw [← hB] at hrun HROWS
  have hBw : w.heap.size ≤ B := by omega
  obtain ⟨i0, hi, hz0, hz1, hz2⟩ := info_parts Try.infoInt
  clear hr3 hF hr6 hrows hbm hB
  go_enter Try.func34, Try.ntmps34
  go_wp2_with fail
  clear hrun
  go_loopw [15] (fun i wr => ∃ (k : Nat) (cells : List Value), k ≤ s.length ∧ i = .int .i64 k ∧ SRows wr B B s.length cells (siftS s p) k ∧ Below w.heap.size w wr) (fun i _ => s.length - (intOf i).toNat)
  case atStart => exact ⟨0, _, by omega, rfl, HROWS.out _, HBM.out⟩
  case round =>
    obtain ⟨k, cells, hk, rfl, hrow, hbw⟩ := hrel
    have HROW : Hid (SRows wr B B s.length cells (siftS s p) k) := hrow
    have HBW : Hid (Below w.heap.size w wr) := hbw
    clear hrow hbw
    by_cases hlt : k < s.length
    · obtain ⟨r, hr⟩ : ∃ r, s[k]? = some r := ⟨s[k], by simp [hlt]⟩
      have HM : Hid ((siftS s p)[k]? = some (r.filter (p k))) := siftS_get s p k r hr
      have hr6 : r.length ≤ 6 := HR6.out r (List.mem_of_getElem? hr)
      have HR : Hid (s[k]? = some r) := hr
      obtain ⟨b, off, x, hax, hb, hc0, hix⟩ := HV3.out k r hr
      subst hax
      have hc := (HBW.out.cell (p := ⟨b, off + k, none⟩) hb).trans hc0
      obtain ⟨a5, c5, rfl, hm5, hr5⟩ := hix
      have HR5 : Hid (∀ (i : Nat) (z : Int), r[i]? = some z → ∃ b off, a5 = some ⟨b, off, none⟩ ∧ b < w.heap.size ∧ w.cell? ⟨b, off + i, none⟩ = some (.int .i64 z)) := hr5
      unfold maxLen at hm5
      obtain ⟨hm51, hm5⟩ := hm5
      obtain ⟨K, HIN⟩ : ∃ K, Hid (SRowsIn wr B B s.length cells (siftS s p) k K []) := ⟨_, HROW.out.into hlt⟩
      clear hr hc0 hr5 hb
      obtain ⟨wo, rfl⟩ : ∃ wo : World, wo = wr := ⟨_, rfl⟩
      go_wp2_with fail
      clear hc
      go_loopw [22] (fun i wr => ∃ (j : Nat) (cells : List Value), j ≤ r.length ∧ i = .int .i64 j ∧ SRowsIn wr B B s.length cells (siftS s p) k K ((r.take j).filter (p k)) ∧ Below w.heap.size w wr) (fun i _ => r.length - (intOf i).toNat)
      case atStart => exact ⟨0, cells, by omega, rfl, HIN.out, HBW.out⟩
      case round =>
        obtain ⟨j, cells, hj, rfl, hin, hbw⟩ := hrel
        have HIN2 : Hid (SRowsIn wr B B s.length cells (siftS s p) k K ((r.take j).filter (p k))) := hin
        have HBW2 : Hid (Below w.heap.size w wr) := hbw
        clear hin hbw
        by_cases hlj : j < r.length
        · obtain ⟨z, hz⟩ : ∃ z, r[j]? = some z := ⟨r[j], by simp [hlj]⟩
          obtain ⟨b5, off5, ha5, hb5, hc5⟩ := HR5.out j z hz
          have HZ : Hid (r[j]? = some z) := hz
          subst ha5
          have hc := (HBW2.out.cell (p := ⟨b5, off5 + j, none⟩) hb5).trans hc5
          clear hz hc5 hb5
          cases hq : p k z
          · have HN : Hid ((r.take (j + 1)).filter (p k) = (r.take j).filter (p k)) := filt_miss (p k) r j z HZ.out hq
            go_wp2_with fail
            rw [HF.out.1, Oper.upon_enter]
            refine (HF.out.2 k r z _ HR.out (List.mem_of_getElem? HZ.out) HBW2.out).mono ?_
            rintro e w1 ⟨rfl, hb1⟩
            rw [hq]
            have HIN3 := HIN2.out.kept hb1
            have HB3 : Hid (Below w.heap.size w w1) := HBW2.out.trans (hb1.mono HBW2.out.size)
            clear hq hb1
            go_wp2
            go_roundw
            case rel => exact ⟨j + 1, cells, by omega, by go_num, by rw [HN.out]; exact HIN3, HB3.out⟩
            case measure => simp [intOf]; omega
          · have HN : Hid ((r.take (j + 1)).filter (p k) = (r.take j).filter (p k) ++ [z]) := filt_hit (p k) r j z HZ.out hq
            obtain ⟨acc, hacc⟩ : ∃ acc, (r.take j).filter (p k) = acc := ⟨_, rfl⟩
            have hal : acc.length ≤ 6 := by rw [← hacc]; exact Nat.le_trans (filt_short (p k) r j) hr6
            rw [hacc] at HN HIN2
            clear hacc
            go_wp2_with fail
            rw [HF.out.1, Oper.upon_enter]
            refine (HF.out.2 k r z _ HR.out (List.mem_of_getElem? HZ.out) HBW2.out).mono ?_
            rintro e w1 ⟨rfl, hb1⟩
            rw [hq]
            have HIN3 : Hid (SRowsIn w1 B B s.length cells (siftS s p) k K acc) := HIN2.out.kept hb1
            have HB3 : Hid (Below w.heap.size w w1) := HBW2.out.trans (hb1.mono HBW2.out.size)
            clear hq hb1 hc HIN2 HBW2
            obtain ⟨htop, _, ⟨x, hx, hox⟩, _, hBK, hKw, _⟩ := HIN3.out
            obtain ⟨ax, cx, rfl⟩ := own_form hox
            have HX : Hid (cells[k]? = some (.slice ax acc.length cx)) := hx
            have hcx : w1.cell? ⟨B, k, none⟩ = some (.slice ax acc.length cx) := by rw [htop.cellAt k (by omega)]; exact hx
            have hlB : B < w1.heap.size := by omega
            clear hx
            go_wp2_with (at_builtin; refine wpList_append_own _ rfl _ _ 62 rfl K 3 i0 (.int .i64 0) 1 8 Try.underlying62 hi hz0 hz1 hz2 rfl (by decide) _ _ _ rfl (hox.alloc _) ⟨w1.heap.size, 0, none⟩ 1 1 [.int .i64 z] rfl rfl ?c1 ?c2 ?c3 ?c4 ?c5 ?_)
            case c1 => exact one_laid w1 z
            case c2 => intro u hu; rcases List.mem_singleton.1 hu with rfl; rfl
            case c3 => unfold maxLen; omega
            case c4 => omega
            case c5 => simp; omega
            intro v3 w3 hown3 hgrow _
            have hown4 : w3.ownsRow K 3 1 v3 (acc ++ [z]).length ((acc ++ [z]).map (Value.int .i64)) := by
              rw [List.length_append, List.map_append]; exact hown3
            have HPUSH : Hid (SRowsIn (w3.setCell ⟨B, k, none⟩ v3) B B s.length (cells.set k v3) (siftS s p) k K (acc ++ [z])) := (HIN3.out.kept (below_alloc _ _)).push HX.out hown4 hgrow
            have HB4 : Hid (Below w.heap.size w (w3.setCell ⟨B, k, none⟩ v3)) :=
              ((HB3.out.alloc HB3.out.size _).grown hgrow (by have := HB3.out.size; simp; omega) (fun g h => by have := (hox.lt g h).1; omega)).setCell (by simp only; omega) _
            have ht3 : w3.ownsRow B 62 1 (.slice (some ⟨B, 0, none⟩) s.length s.length) s.length cells := (htop.alloc _).kept hgrow (Or.inr (fun h => by have := (hox.lt B h.symm).1; omega))
            have hcB : w3.cell? ⟨B, k, none⟩ = some (.slice ax acc.length cx) := by rw [ht3.cellAt k (by omega)]; exact HX.out
            have hfB : w3.frozen? ⟨B, k, none⟩ = false := ht3.frozenAt k
            obtain ⟨av, cv, rfl⟩ := own_form hown4
            rw [show (acc ++ [z]).length = acc.length + 1 by simp] at HPUSH HB4
            clear hown3 hgrow hown4 hox hcx htop ht3
            go_wp2
            go_roundw
            case rel => exact ⟨j + 1, _, by omega, by go_num, by rw [HN.out]; exact HPUSH.out, HB4.out⟩
            case measure => simp [intOf]; omega
        · have HN : Hid ((r.take j).filter (p k) = r.filter (p k)) := by show _ = _; rw [List.take_of_length_le (by omega)]
          have HD : Hid (SRows wr B B s.length cells (siftS s p) (k + 1)) := HIN2.out.done (by rw [HN.out]; exact HM.out)
          go_wp2
          go_roundw
          case rel => exact ⟨k + 1, cells, by omega, by go_num, HD.out, HBW2.out⟩
          case measure => simp [intOf]; omega
    · have hks : k = s.length := by omega
      have HFN : Hid (RArg wr (.slice (some ⟨B, 0, none⟩) s.length s.length) (siftS s p)) := by
        have h := HROW.out
        rw [hks] at h
        exact h.rarg (siftS_len s p)
      clear hks
      go_wp2
      go_ret
      exact ⟨_, rfl, HFN.out, HBW.out⟩
end Go.Proofs.Ytggkbhafbhhhhab
